import PyProof.Rows.All
import Wide.All
import OpenK.AllK
import Wide.FinOn
import PyProof.EqAt
import PyProof.EqKinds
import PyProof.TupleCall
import KE.BitLaws
import Open.SpecLaws
import KE.OsHead
import KE.OsGo
import PyKqb4
import PyFlatLaws
import PySem.Challenge.RW_cellpacks_s01_answers
section
set_option Elab.async false
set_option linter.all false
set_option maxRecDepth 100000
namespace L2
open PySem PySem.Spec PyProof.Rows
abbrev Key := Sum Int Str
def keyIs : Key → Value → Bool
  | .inl k, v => Value.isInt k v
  | .inr x, v => Value.isStrOf x v
def keyH (w : World) : Key → Int
  | .inl k => hashInt k
  | .inr x => hashStr w x
theorem keyIs_shape : ∀ {k : Key} {v : Value}, keyIs k v = true → (∃ i t, k = Sum.inl i ∧ v = Value.int i t) ∨ (∃ x t, k = Sum.inr x ∧ v = Value.str x t)
  | .inl i, v, h => by
    obtain ⟨t, e⟩ := Value.isInt_shape (k := i) (v := v) h
    exact .inl ⟨i, t, rfl, e⟩
  | .inr x, v, h => by
    obtain ⟨t, e⟩ := Value.isStrOf_shape (x := x) (v := v) h
    exact .inr ⟨x, t, rfl, e⟩
theorem keyIs_int (i : Int) (t : Tok) : keyIs (.inl i) (.int i t) = true := by simp [keyIs, Value.isInt]
theorem keyIs_str (x : Str) (t : Tok) : keyIs (.inr x) (.str x t) = true := by simp [keyIs, Value.isStrOf]
theorem key_ll (a b : Int) : decide ((Sum.inl a : Key) = Sum.inl b) = (a == b) := by
  by_cases e : a = b
  · subst e; simp
  · have h : ¬ (Sum.inl a : Key) = Sum.inl b := fun q => e (Sum.inl.inj q)
    rw [decide_eq_false h]
    exact (beq_eq_false_iff_ne.mpr e).symm
theorem key_rr (a b : Str) : decide ((Sum.inr a : Key) = Sum.inr b) = decide (a = b) := by
  by_cases e : a = b
  · subst e; simp
  · have h : ¬ (Sum.inr a : Key) = Sum.inr b := fun q => e (Sum.inr.inj q)
    rw [decide_eq_false h, decide_eq_false e]
theorem key_lr (a : Int) (b : Str) : decide ((Sum.inl a : Key) = Sum.inr b) = false := decide_eq_false (fun q => nomatch q)
theorem key_rl (a : Str) (b : Int) : decide ((Sum.inr a : Key) = Sum.inl b) = false := decide_eq_false (fun q => nomatch q)
def mixKind (prog : Program) (w : World) : PySem.KeyKind prog w Key where
  is := keyIs
  hash := keyH w
  inj := fun v a b ha hb => by
    rcases keyIs_shape ha with ⟨i, t, rfl, rfl⟩ | ⟨x, t, rfl, rfl⟩
    · rcases keyIs_shape hb with ⟨j, u, rfl, e⟩ | ⟨y, u, rfl, e⟩
      · injection e with e1 _; rw [e1]
      · exact nomatch e
    · rcases keyIs_shape hb with ⟨j, u, rfl, e⟩ | ⟨y, u, rfl, e⟩
      · exact nomatch e
      · injection e with e1 _; rw [e1]
  byValue := fun k v h => by
    rcases keyIs_shape h with ⟨i, t, rfl, rfl⟩ | ⟨x, t, rfl, rfl⟩ <;> rfl
  pyHash := fun hv h => by
    rcases keyIs_shape hv with ⟨i, t, rfl, rfl⟩ | ⟨x, t, rfl, rfl⟩
    · exact wpAny_pyHash_int h
    · exact wpAny_pyHash_str h
  eqBool := fun hu hv h => by
    rcases keyIs_shape hu with ⟨i, t, rfl, rfl⟩ | ⟨x, t, rfl, rfl⟩
    · rcases keyIs_shape hv with ⟨j, u, rfl, rfl⟩ | ⟨y, u, rfl, rfl⟩
      · rw [key_ll] at h; exact wpAny_eqBool_int h
      · rw [key_lr] at h; exact SeqAt.EqAt.int_str i t y u _ _ _ _ h
    · rcases keyIs_shape hv with ⟨j, u, rfl, rfl⟩ | ⟨y, u, rfl, rfl⟩
      · rw [key_rl] at h; exact SeqAt.EqAt.str_int x t j u _ _ _ _ h
      · rw [key_rr] at h; exact wpAny_eqBool_str h
  «strs» := fun k x t v h => by
    rcases keyIs_shape h with ⟨i, u, rfl, e⟩ | ⟨y, u, rfl, e⟩
    · exact nomatch e
    · injection e with e1 _
      subst e1
      cases v <;> rfl
theorem mixKind_int (prog : Program) (w : World) (i : Int) (t : Tok) : (mixKind prog w).is (.inl i) (.int i t) = true := keyIs_int i t
theorem mixKind_str (prog : Program) (w : World) (x : Str) (t : Tok) : (mixKind prog w).is (.inr x) (.str x t) = true := keyIs_str x t
end L2
namespace L2
open PySem PySem.Spec PyProof.Rows
inductive V where
  | non | bl (b : Bool) | int (i : Int) | str (x : Str) | byt (b : Array UInt8) | flt (b : UInt64) | ref (a : Addr) | ty (n : String)
  deriving DecidableEq
def RelV : V → Value → Prop
  | .non, u => u = Value.none
  | .bl b, u => u = Value.bool b
  | .int i, u => ∃ t, u = Value.int i t
  | .str x, u => ∃ t, u = Value.str x t
  | .byt b, u => ∃ t, u = Value.bytes b t
  | .flt b, u => ∃ t, u = Value.float b t
  | .ref a, u => u = Value.ref a
  | .ty n, u => u = Value.type n
abbrev Vals : List V → List Value → Prop := Paired RelV
theorem Vals.length {xs : List V} {us : List Value} (r : Vals xs us) : xs.length = us.length := Paired.length r
theorem Vals.get : ∀ {xs : List V} {us : List Value} {i : Nat} {x : V}, Vals xs us → xs[i]? = some x → ∃ u, us[i]? = some u ∧ RelV x u
  | _, _, _, _, .nil, e => by simp at e
  | _, _, 0, _, .cons r _, e => by simp at e; subst e; exact ⟨_, rfl, r⟩
  | _, _, i + 1, x, .cons _ t, e => by
    obtain ⟨u, h1, h2⟩ := Vals.get (i := i) (x := x) t (by simpa using e)
    exact ⟨u, by simpa using h1, h2⟩
theorem Vals.set {x : V} {u : Value} (r : RelV x u) : ∀ {xs : List V} {us : List Value} (i : Nat), Vals xs us → Vals (xs.set i x) (us.set i u)
  | _, _, _, .nil => .nil
  | _, _, 0, .cons _ t => .cons r t
  | _, _, i + 1, .cons q t => .cons q (Vals.set r i t)
theorem Vals.append : ∀ {xs ys : List V} {us ws : List Value}, Vals xs us → Vals ys ws → Vals (xs ++ ys) (us ++ ws)
  | _, _, _, _, .nil, s => s
  | _, _, _, _, .cons r t, s => .cons r (Vals.append t s)
theorem Vals.take : ∀ {xs : List V} {us : List Value} (n : Nat), Vals xs us → Vals (xs.take n) (us.take n)
  | _, _, 0, _ => .nil
  | _, _, _ + 1, .nil => .nil
  | _, _, n + 1, .cons r t => .cons r (Vals.take n t)
theorem Vals.drop : ∀ {xs : List V} {us : List Value} (n : Nat), Vals xs us → Vals (xs.drop n) (us.drop n)
  | _, _, 0, r => r
  | _, _, _ + 1, .nil => .nil
  | _, _, n + 1, .cons _ t => Vals.drop n t
def RelO : Option V → Option Value → Prop
  | some v, some u => RelV v u
  | none, none => True
  | _, _ => False
def KV {κ : Type} : List (κ × V) → List (κ × Value) → Prop := Paired fun (p : κ × V) (q : κ × Value) => p.1 = q.1 ∧ RelV p.2 q.2
def kV : Key → V
  | .inl i => .int i
  | .inr x => .str x
inductive HO where
  | lst (xs : List V)
  | tup (xs : List V)
  | dK (kvs : List (Key × V)) | dT (kvs : List (List Key × V))
  | set (S : Int → Bool) (n : Nat)
  | ins (C dx : Addr) (fs : List (Str × V))
  | own (x : Addr)
  | xd (fs : List (Str × V))
  | met (f x : Addr)
  | rng (lo hi : Int)
  | frz (o : Obj) (u : HO)
  | tbl (ps : Array Value)
  | ext (φ : Heap → Prop)
abbrev Hp := Addr → Option HO
def upd (H : Hp) (a : Addr) (o : HO) : Hp := fun b => if b = a then some o else H b
theorem upd_same {H : Hp} {a : Addr} {o : HO} : upd H a o a = some o := by unfold upd; rw [if_pos rfl]
theorem upd_ne {H : Hp} {a b : Addr} {o : HO} (h : b ≠ a) : upd H a o b = H b := by unfold upd; rw [if_neg h]
theorem upd_upd {H : Hp} {a : Addr} {o u : HO} : upd (upd H a o) a u = upd H a u := by
  funext b; unfold upd; split <;> rfl
theorem ne_of {H : Hp} {a b : Addr} {o u : HO} (h : H a = some o) (h' : H b = some u) (d : o ≠ u) : a ≠ b := by
  intro e; subst e; rw [h] at h'; exact d (Option.some.inj h')
theorem ne_of_none {H : Hp} {a b : Addr} {o : HO} (h : H a = some o) (h' : H b = none) : a ≠ b := by
  intro e; subst e; rw [h] at h'; cases h'
section
variable (P : Program) (w : World)
def ObjOk (H : Hp) (h : Heap) (a : Addr) : HO → Prop
  | .lst xs => xs.length ≤ sizeLine ∧ ∃ (its : List Value) (n : Nat), Vals xs its ∧ h.get? a = some { cls := .type "list", data := .seq its.toArray n }
  | .tup xs => xs.length ≤ sizeLine ∧ ∃ its : List Value, Vals xs its ∧ IsTup h a its.toArray
  | .dK kvs => kvs.length ≤ sizeLine ∧ (a == sysModules) = false ∧ ∃ vs, KV kvs vs ∧ h.DictOf (mixKind P w) a vs
  | .dT kvs => kvs.length ≤ sizeLine ∧ (a == sysModules) = false ∧ ∃ xs : List (List Key × Addr × Value),
      Paired (fun (p : List Key × V) (q : List Key × Addr × Value) => p.1 = q.1 ∧ H q.2.1 = some (.tup (p.1.map kV)) ∧ RelV p.2 q.2.2) kvs xs ∧
      ∃ o es ep, h.get? a = some o ∧ o.ExactDict ∧ o.data = .dict es ep ∧ es.toList = xs.map (entryOfKey (tupleKind (mixKind P w))) ∧ (xs.map (·.1)).Nodup
  | .set S n => h.SetOf (intKind P w) a S n
  | .ins C dx fs => H dx = some (.own a) ∧ fs.length ≤ 1000 ∧ dx ≠ a ∧ h.get? a = some (PySem.W.instObj C dx) ∧
      ∃ mA, h.Ns1 dx mA ∧ (∀ f, RelO (fs.lookup f) (mA f)) ∧ PySem.Within mA (fs.map (·.1))
  | .own _ => ∃ o, h.get? a = some o
  | .xd fs => ∃ mA, h.Ns1 a mA ∧ ∀ f, RelO (fs.lookup f) (mA f)
  | .rng lo hi => ∃ t u v, h.get? a = some { cls := .type "range", data := .fields #[.int lo t, .int hi u, .int 1 v] }
  | .frz o u => h.get? a = some o ∧ ObjOk H h a u
  | .tbl ps => h.get? a = some { cls := .none, data := .fields ps }
  | .met f x => h.get? a = some (PySem.W.methodObj (.ref f) (.ref x))
  | .ext φ => φ h ∧ (∃ o, h.get? a = some o) ∧ ∀ h1 h2 : Heap, φ h1 → (∀ o, h1.get? a = some o → h2.get? a = some o) → φ h2
def HOk (H : Hp) (h : Heap) : Prop := ∀ a o, H a = some o → ObjOk P w H h a o
end
section
variable {P : Program} {w : World} {H H' : Hp} {h h' : Heap} {a : Addr} {o : HO}
theorem ObjOk.lt (x : ObjOk P w H h a o) : a < h.objs.size := by
  cases o with
  | lst xs => obtain ⟨_, _, _, _, e⟩ := x; exact Heap.lt_size e
  | tup xs => obtain ⟨_, _, _, p⟩ := x; exact p.lt
  | dK kvs => obtain ⟨_, _, _, _, o, _, _, e, _⟩ := x; exact Heap.lt_size e
  | dT kvs => obtain ⟨_, _, _, _, o, _, _, e, _⟩ := x; exact Heap.lt_size e
  | set S n => obtain ⟨o, _, _, _, e, _⟩ := x; exact Heap.lt_size e
  | ins C dx fs => obtain ⟨_, _, _, e, _⟩ := x; exact Heap.lt_size e
  | own y => obtain ⟨_, e⟩ := x; exact Heap.lt_size e
  | xd fs => obtain ⟨_, ⟨_, _, _, e, _⟩, _⟩ := x; exact Heap.lt_size e
  | rng lo hi => obtain ⟨_, _, _, e⟩ := x; exact Heap.lt_size e
  | frz ob u => obtain ⟨e, _⟩ := x; exact Heap.lt_size e
  | tbl ps => exact Heap.lt_size (show h.get? a = some _ from x)
  | met f y => exact Heap.lt_size (show h.get? a = some _ from x)
  | ext φ => obtain ⟨_, ⟨_, e⟩, _⟩ := x; exact Heap.lt_size e
theorem Paired.mapP {α β : Type} {F G : α → β → Prop} : ∀ {l₁ : List α} {l₂ : List β}, Paired F l₁ l₂ → (∀ a b, F a b → G a b) → Paired G l₁ l₂
  | _, _, .nil, _ => .nil
  | _, _, .cons r t, f => .cons (f _ _ r) (Paired.mapP t f)
theorem ObjOk.stay (x : ObjOk P w H h a o) (k : ∀ b u, (b = a ∨ H b = some (.own a)) → h.get? b = some u → h'.get? b = some u)
    (ho : ∀ b, H b = some (.own a) → H' b = some (.own a)) (ht : ∀ b xs, H b = some (.tup xs) → H' b = some (.tup xs)) : ObjOk P w H' h' a o := by
  induction o with
  | lst xs => obtain ⟨z, its, n, r, e⟩ := x; exact ⟨z, its, n, r, k _ _ (.inl rfl) e⟩
  | tup xs => obtain ⟨z, its, r, ob, e, c⟩ := x; exact ⟨z, its, r, ob, k _ _ (.inl rfl) e, c⟩
  | dK kvs => obtain ⟨z, y, vs, r, ob, es, ep, e, c⟩ := x; exact ⟨z, y, vs, r, ob, es, ep, k _ _ (.inl rfl) e, c⟩
  | dT kvs =>
    obtain ⟨z, y, xs, r, ob, es, ep, e, c⟩ := x
    exact ⟨z, y, xs, Paired.mapP r fun p q z => ⟨z.1, ht _ _ z.2.1, z.2.2⟩, ob, es, ep, k _ _ (.inl rfl) e, c⟩
  | set S n => obtain ⟨ob, es, ep, t, e, c⟩ := x; exact ⟨ob, es, ep, t, k _ _ (.inl rfl) e, c⟩
  | ins C dx fs =>
    obtain ⟨d, z, ne, e, mA, ⟨od, es, ep, e2, c⟩, r⟩ := x
    exact ⟨ho _ d, z, ne, k _ _ (.inl rfl) e, mA, ⟨od, es, ep, k _ _ (.inr d) e2, c⟩, r⟩
  | own y => obtain ⟨ob, e⟩ := x; exact ⟨ob, k _ _ (.inl rfl) e⟩
  | xd fs => obtain ⟨mA, ⟨od, es, ep, e, c⟩, r⟩ := x; exact ⟨mA, ⟨od, es, ep, k _ _ (.inl rfl) e, c⟩, r⟩
  | rng lo hi => obtain ⟨t, u, v, e⟩ := x; exact ⟨t, u, v, k _ _ (.inl rfl) e⟩
  | frz ob u ih => obtain ⟨e, q⟩ := x; exact ⟨k _ _ (.inl rfl) e, ih q⟩
  | tbl ps =>
    have e : h.get? a = some { cls := .none, data := .fields ps } := x
    show h'.get? a = some { cls := .none, data := .fields ps }
    exact k a _ (.inl rfl) e
  | met f y =>
    have e : h.get? a = some (PySem.W.methodObj (.ref f) (.ref y)) := x
    show h'.get? a = some (PySem.W.methodObj (.ref f) (.ref y))
    exact k a _ (.inl rfl) e
  | ext φ => obtain ⟨p, ⟨o, e⟩, st⟩ := x; exact ⟨st _ _ p fun o q => k _ _ (.inl rfl) q, ⟨o, k _ _ (.inl rfl) e⟩, st⟩
theorem HOk.lt (x : HOk P w H h) (e : H a = some o) : a < h.objs.size := (x a o e).lt
theorem HOk.fresh (x : HOk P w H h) (e : h.objs.size ≤ a) : H a = none := by
  cases q : H a with
  | none => rfl
  | some u => exact absurd (Nat.lt_of_lt_of_le (x.lt q) e) (Nat.lt_irrefl _)
theorem HOk.kept (x : HOk P w H h) (k : ∀ b u, h.get? b = some u → h'.get? b = some u) : HOk P w H h' := fun a o e =>
  (x a o e).stay (fun b u _ q => k b u q) (fun _ q => q) fun _ _ q => q
theorem HOk.laid (x : HOk P w H h) (k : ∀ b u, h.get? b = some u → h'.get? b = some u) (hp : h.objs.size ≤ a) (new : ObjOk P w (upd H a o) h' a o) : HOk P w (upd H a o) h' := fun b u e => by
  have hn := x.fresh hp
  by_cases hb : b = a
  · subst hb; rw [upd_same] at e; cases e; exact new
  · rw [upd_ne hb] at e
    exact (x b u e).stay (fun c v _ q => k c v q) (fun c q => by rw [upd_ne (ne_of_none q hn)]; exact q) fun c xs q => by rw [upd_ne (ne_of_none q hn)]; exact q
end
def Rd (H : Hp) (a : Addr) (u : HO) : Prop := H a = some u ∨ ∃ o, H a = some (.frz o u)
theorem Rd.ok {P : Program} {w : World} {H : Hp} {h : Heap} {a : Addr} {u : HO} (r : Rd H a u) (x : HOk P w H h) : ObjOk P w H h a u := by
  rcases r with r | ⟨o, r⟩
  · exact x a u r
  · obtain ⟨_, q⟩ := x a _ r
    exact q
def Mut : Option HO → Prop
  | some (.lst _) => True
  | some (.dK _) => True
  | some (.dT _) => True
  | some (.set _ _) => True
  | some (.ins _ _ _) => True
  | some (.ext _) => True
  | _ => False
section
variable {P : Program} {w : World} {H : Hp} {h h' : Heap} {x e : Addr} {o' : HO}
theorem HOk.write (ok : HOk P w H h) (mu : Mut (H x)) (he : e = x ∨ H e = some (.own x)) (k : ∀ b u, b ≠ e → h.get? b = some u → h'.get? b = some u) (heo : ∃ u, h'.get? e = some u)
    (new : ObjOk P w (upd H x o') h' x o') : HOk P w (upd H x o') h' := fun b u q => by
  have nown : ∀ c y, H c = some (.own y) → c ≠ x := fun c y r z => by subst z; rw [r] at mu; exact mu
  have ntup : ∀ c xs, H c = some (.tup xs) → c ≠ x := fun c xs r z => by subst z; rw [r] at mu; exact mu
  by_cases hb : b = x
  · subst hb; rw [upd_same] at q; cases q; exact new
  · rw [upd_ne hb] at q
    by_cases hbe : b = e
    · have q' : H b = some (.own x) := by
        rcases he with z | z
        · exact absurd (hbe.trans z) hb
        · rw [hbe]; exact z
      rw [q] at q'; cases q'
      obtain ⟨v, hv⟩ := heo
      exact ⟨v, by rw [hbe]; exact hv⟩
    · refine (ok b u q).stay (fun c v hc r => k c v ?_ r) (fun c r => by rw [upd_ne (nown c b r)]; exact r) fun c xs r => by rw [upd_ne (ntup c xs r)]; exact r
      rcases hc with rfl | hc
      · exact hbe
      · rintro rfl
        rcases he with z | z
        · exact nown c b hc z
        · rw [hc] at z; cases z; exact hb rfl
end
structure Un (fs ex : List Addr) (H H' : Hp) (h h' : Heap) : Prop where
  keep : ∀ b o, h.get? b = some o → H b = none → b ∉ fs → b ∉ ex → h'.get? b = some o
  slot : ∀ b o, h.get? b = some o → H b = none → b ∈ fs → b ∉ ex → ∃ sl, h'.get? b = some { o with slots := sl }
  free : ∀ b o, h.get? b = some o → H b = none → b ∉ ex → H' b = none
  there : ∀ b o, h.get? b = some o → b ∉ ex → ∃ o', h'.get? b = some o'
  tups : ∀ b xs, H b = some (.tup xs) → H' b = some (.tup xs)
  frzs : ∀ b o u, H b = some (.frz o u) → H' b = some (.frz o u)
  tbls : ∀ b ps, H b = some (.tbl ps) → ∃ more, H' b = some (.tbl (ps ++ more))
section
variable {fs fs' ex ex' : List Addr} {H H1 H2 : Hp} {h h1 h2 h' : Heap} {a x e : Addr} {o : HO}
theorem Un.any (u : Un fs ex H H1 h h1) {b : Addr} {ob : Obj} (q : h.get? b = some ob) (n : H b = none) (hx : b ∉ ex) : ∃ sl, h1.get? b = some { ob with slots := sl } := by
  by_cases hb : b ∈ fs
  · exact u.slot b ob q n hb hx
  · exact ⟨ob.slots, u.keep b ob q n hb hx⟩
theorem Un.kept (k : ∀ b u, h.get? b = some u → h'.get? b = some u) : Un fs ex H H h h' :=
  ⟨fun b ob q _ _ _ => k b ob q, fun b ob q _ _ _ => ⟨ob.slots, k b ob q⟩, fun _ _ _ n _ => n, fun b ob q _ => ⟨ob, k b ob q⟩, fun _ _ q => q, fun _ _ _ q => q, fun _ ps q => ⟨#[], by rw [q]; simp⟩⟩
theorem Un.refl : Un fs ex H H h h := Un.kept fun _ _ q => q
theorem Un.laid (k : ∀ b u, h.get? b = some u → h'.get? b = some u) (hp : h.objs.size ≤ a) (hn : H a = none) : Un fs ex H (upd H a o) h h' where
  keep := fun b u q _ _ _ => k b u q
  slot := fun b u q _ _ _ => ⟨u.slots, k b u q⟩
  free := fun b u q n _ => by rw [upd_ne (Nat.ne_of_lt (Nat.lt_of_lt_of_le (Heap.lt_size q) hp))]; exact n
  there := fun b u q _ => ⟨u, k b u q⟩
  tups := fun b xs q => by rw [upd_ne (ne_of_none q hn)]; exact q
  frzs := fun b u xs q => by rw [upd_ne (ne_of_none q hn)]; exact q
  tbls := fun b ps q => ⟨#[], by rw [upd_ne (ne_of_none q hn), q]; simp⟩
theorem Un.write (mu : Mut (H x)) (he : e = x ∨ H e = some (.own x)) (k : ∀ b u, b ≠ e → h.get? b = some u → h'.get? b = some u) (heo : ∃ u, h'.get? e = some u) : Un fs ex H (upd H x o) h h' := by
  have hx : ∀ b, H b = none → b ≠ x := fun b n z => by subst z; rw [n] at mu; exact mu
  have hb : ∀ b, H b = none → b ≠ e := fun b n z => by
    subst z
    rcases he with r | r
    · exact hx b n r
    · rw [n] at r; cases r
  have hm : ∀ b u, H b = some u → ¬ Mut (some u) → b ≠ x := fun b u q nm z => by subst z; rw [q] at mu; exact nm mu
  refine ⟨fun b u q n _ _ => k b u (hb b n) q, fun b u q n _ _ => ⟨u.slots, k b u (hb b n) q⟩, fun b u q n _ => by rw [upd_ne (hx b n)]; exact n, fun b u q _ => ?_,
    fun b xs q => by rw [upd_ne (hm b _ q fun z => z)]; exact q, fun b u xs q => by rw [upd_ne (hm b _ q fun z => z)]; exact q, fun b ps q => ⟨#[], by rw [upd_ne (hm b _ q fun z => z), q]; simp⟩⟩
  by_cases hbe : b = e
  · subst hbe; exact heo
  · exact ⟨u, k b u hbe q⟩
end
def trk (h : Heap) (H : Hp) : List Addr := (List.range h.objs.size).filter fun a => (H a).isSome
def hidT (h : Heap) (H : Hp) : Heap := PySem.W.hideAll h (trk h H)
theorem hidT_size (h : Heap) (H : Hp) : (hidT h H).objs.size = h.objs.size := PySem.W.hideAll_size _ _
theorem hidT_get {h : Heap} {H : Hp} {b : Addr} {o : Obj} (e : h.get? b = some o) (n : H b = none) : (hidT h H).get? b = some o :=
  PySem.W.hideAll_get _ e fun hm => by
    have q : (H b).isSome = true := (List.mem_filter.mp hm).2
    rw [n] at q; simp at q
theorem of_hidT {h : Heap} {H : Hp} {b : Addr} {o : Obj} (e : (hidT h H).get? b = some o) : h.get? b = some o ∧ H b = none := by
  have e' : h.get? b = some o := PySem.W.of_hideAll (trk h H) e
  refine ⟨e', ?_⟩
  cases q : H b with
  | none => rfl
  | some x =>
    have hm : b ∈ trk h H := List.mem_filter.mpr ⟨List.mem_range.mpr (Heap.lt_size e'), by simp [q]⟩
    have z : (hidT h H).get? b = none := PySem.W.hideAll_none (trk h H) hm
    rw [z] at e; cases e
end L2
namespace L2
open PySem PySem.Spec PyProof.Rows
structure Mod (K : PySem.W.Frag) (mg : Str → Option Value) (base : Heap) : Prop where
  kin : K.In base
  glob : base.Ns mainGlobals mg
  blt : ∃ mb, base.Ns builtinsNs mb ∧ ∀ x : Str, x ≠ "__name__" → mb x = bootBuiltins x
  nolimit : base.NoLimit
structure Cx where
  prog : Program
  w : World
  K : PySem.W.Frag
  mg : Str → Option Value
  base : Heap
  A : Around
  N : List Str
  s_0 : Shared
  H_0 : Hp
  env : Env
  outer : List Env
  stack : List Env
  ex : List Addr
  fn : Str → Bool
  calm : Bool
  pn : List (Addr × Obj)
  xe : Value → Shared → Prop
def frs (l : List Env) : List Addr := l.filterMap (·.frame)
abbrev Cx.fs (X : Cx) : List Addr := frs X.outer
def Vis (sc : Scope) (x : Str) : Prop := sc.names.lookup x = some .local ∨ sc.names.lookup x = some .cell ∨ sc.names.lookup x = some .free
def Loc (sc : Scope) (x : Str) : Prop := sc.names.lookup x = some .local ∨ sc.names.lookup x = some .cell
def Look (env : Env) (h : Heap) (m : Str → Option Value) (x : Str) (u : Value) : Prop :=
  (env.kindOf x = some .local ∧ m x = some u) ∨ ((env.kindOf x = some .cell ∨ env.kindOf x = some .free) ∧ ∃ c, env.cells.lookup x = some c ∧ h.IsCell c (some u))
structure Cx.Ok (X : Cx) : Prop where
  mod : Mod X.K X.mg X.base
  kind : X.env.scope.kind = .function
  glob : X.env.globals = mainGlobals
  blt : X.env.builtins = builtinsNs
  above : X.s_0.heap.objs.size ≤ X.env.locals
  inj : ∀ x y c, X.env.cells.lookup x = some c → X.env.cells.lookup y = some c → x = y
  has : ∀ x, (X.env.kindOf x = some .cell ∨ X.env.kindOf x = some .free) → ∃ c, X.env.cells.lookup x = some c
  cab : ∀ x c, X.fn x = true → X.env.cells.lookup x = some c → X.s_0.heap.objs.size ≤ c
  hd : X.calm = true → X.A.handled = none
  frames : X.A.frames = some X.stack
  stk : X.stack = X.outer ∨ (X.stack = X.env :: X.outer ∧ X.env.frame = some X.env.locals)
  exf : ∀ b ∈ X.ex, b ≠ X.env.locals ∧ ∀ x c, X.env.cells.lookup x = some c → c ≠ b
  bs : ∀ b o, X.base.get? b = some o → X.s_0.heap.get? b = some o ∧ X.H_0 b = none
  bsz : X.base.objs.size ≤ X.s_0.heap.objs.size
  noex : ∀ b o, X.base.get? b = some o → b ∉ X.ex
  exfs : ∀ b ∈ X.ex, b ∉ X.fs
  funs : X.s_0.heap.FunFrames X.base X.outer
  frf : ∀ b ∈ X.fs, X.H_0 b = none
structure Inv (X : Cx) (pins : List (Addr × Obj)) (σ : List (Option V)) (H : Hp) (s : Shared) : Prop where
  ok : X.Ok
  os : s.os = X.s_0.os
  bare : AllBare s.gens
  base : Un X.fs X.ex X.H_0 H X.s_0.heap s.heap
  loc : ∃ m, s.heap.Ns X.env.locals m ∧ ∀ (i : Nat) (x : Str) (v : V), X.N[i]? = some x → σ[i]? = some (some v) → Vis X.env.scope x → ∃ u, RelV v u ∧ Look X.env s.heap m x u
  cell : ∀ x c, X.env.cells.lookup x = some c → ∃ v, s.heap.IsCell c v
  free : H X.env.locals = none
  freeC : ∀ x c, X.env.cells.lookup x = some c → H c = none
  pin : ∀ p ∈ X.pn ++ pins, s.heap.get? p.1 = some p.2 ∧ H p.1 = none ∧ p.1 ≠ X.env.locals ∧ p.1 ∉ X.fs ∧ ∀ v, p.2.data ≠ .cell v
  hok : HOk X.prog X.w H s.heap
  len : σ.length = X.N.length
section
variable {X : Cx} {pins : List (Addr × Obj)} {σ : List (Option V)} {H H' : Hp} {s : Shared} {h' : Heap}
theorem Cx.Ok.nofr (ok : X.Ok) {b : Addr} {o : Obj} (e : X.base.get? b = some o) : b ∉ X.fs := fun hb => by
  have := (ok.funs.mem hb).1
  rw [e] at this; cases this
theorem Inv.bs (I : Inv X pins σ H s) : ∀ b o, X.base.get? b = some o → s.heap.get? b = some o ∧ H b = none := fun b o e =>
  ⟨I.base.keep b o (I.ok.bs b o e).1 (I.ok.bs b o e).2 (I.ok.nofr e) (I.ok.noex b o e), I.base.free b o (I.ok.bs b o e).1 (I.ok.bs b o e).2 (I.ok.noex b o e)⟩
theorem Inv.bk (I : Inv X pins σ H s) : ∀ b o, X.base.get? b = some o → s.heap.get? b = some o := fun b o e => (I.bs b o e).1
theorem Inv.mod (I : Inv X pins σ H s) : Mod X.K X.mg X.base := I.ok.mod
theorem Inv.kIn (I : Inv X pins σ H s) : X.K.In s.heap := I.ok.mod.kin.keeps I.bk
theorem Inv.fr (I : Inv X pins σ H s) : ∃ m, Fr X.base X.env.locals s.heap m :=
  let ⟨m, hn, _⟩ := I.loc
  ⟨m, hn, I.bk, Nat.le_trans I.ok.bsz I.ok.above⟩
theorem Inv.lt (I : Inv X pins σ H s) : X.env.locals < s.heap.objs.size := let ⟨_, hn, _⟩ := I.loc; hn.lt
theorem Inv.sz (I : Inv X pins σ H s) : X.s_0.heap.objs.size ≤ s.heap.objs.size := Nat.le_trans I.ok.above (Nat.le_of_lt I.lt)
theorem Inv.nofs (I : Inv X pins σ H s) {a : Addr} (h : s.heap.objs.size ≤ a) : a ∉ X.fs := fun hb => by
  obtain ⟨_, o, ho, _⟩ := I.ok.funs.mem hb
  exact absurd (Nat.lt_of_lt_of_le (Heap.lt_size ho) (Nat.le_trans I.sz h)) (Nat.lt_irrefl _)
theorem Inv.cne (I : Inv X pins σ H s) : ∀ x c, X.env.cells.lookup x = some c → c ≠ X.env.locals := fun x c e z => by
  obtain ⟨v, o, ho, hd⟩ := I.cell x c e
  obtain ⟨m, ⟨o', es, ep, ho', hd', _⟩, _⟩ := I.loc
  rw [z, ho'] at ho; cases ho; rw [hd'] at hd; cases hd
theorem Inv.funs (I : Inv X pins σ H s) : s.heap.FunFrames X.base X.outer := by
  have all : ∀ (l : List Env), (∀ b ∈ frs l, b ∈ X.fs) → X.s_0.heap.FunFrames X.base l → s.heap.FunFrames X.base l := by
    intro l
    induction l with
    | nil => intro _ _; trivial
    | cons env r ih =>
      intro hs hl
      obtain ⟨hk, ⟨L, o, hf, hn, ho, hd⟩, hr⟩ := hl
      have hL : L ∈ X.fs := hs L (by unfold frs; rw [List.filterMap_cons, hf]; exact List.mem_cons_self)
      obtain ⟨sl, e⟩ := I.base.slot L o ho (I.ok.frf L hL) hL fun z => I.ok.exfs L z hL
      exact ⟨hk, ⟨L, _, hf, hn, e, hd⟩, ih (fun b hb => hs b (by unfold frs; rw [List.filterMap_cons, hf]; exact List.mem_cons_of_mem _ hb)) hr⟩
  exact all X.outer (fun _ hb => hb) I.ok.funs
theorem Inv.stack (I : Inv X pins σ H s) : s.heap.FunFrames X.base X.stack := by
  rcases I.ok.stk with e | ⟨e, hf⟩
  · rw [e]; exact I.funs
  · rw [e]
    obtain ⟨m, hn, _⟩ := I.loc
    refine .cons (by rw [I.ok.kind]; decide) hf hn ?_ I.funs
    exact Heap.get?_none_of_le (Nat.le_trans I.ok.bsz I.ok.above)
theorem Inv.stkSub (I : Inv X pins σ H s) : ∀ b ∈ frs X.stack, b ∈ X.env.locals :: X.fs := fun b hb => by
  rcases I.ok.stk with e | ⟨e, hf⟩
  · rw [e] at hb; exact List.mem_cons_of_mem _ hb
  · rw [e] at hb
    unfold frs at hb
    rw [List.filterMap_cons, hf] at hb
    exact hb
theorem Inv.stkFree (I : Inv X pins σ H s) : ∀ b ∈ frs X.stack, H b = none := fun b hb => by
  rcases List.mem_cons.mp (I.stkSub b hb) with e | hb
  · rw [e]; exact I.free
  · obtain ⟨_, o, ho, _⟩ := I.ok.funs.mem hb
    exact I.base.free b o ho (I.ok.frf b hb) fun z => I.ok.exfs b z hb
theorem Inv.step {g' : Array GenState} {t' : Nat} {d' : Drawn} {ch : List Addr} (I : Inv X pins σ H s)
    (hch : ∀ b ∈ ch, (b ∈ X.ex ∨ X.s_0.heap.objs.size ≤ b) ∧ b ≠ X.env.locals ∧ (∀ x c, X.env.cells.lookup x = some c → c ≠ b) ∧ ∀ p ∈ X.pn ++ pins, p.1 ≠ b)
    (keep : ∀ b o, b ≠ X.env.locals → b ∉ X.fs → b ∉ ch → s.heap.get? b = some o → H b = none → h'.get? b = some o)
    (slot : ∀ b o, b ≠ X.env.locals → b ∈ X.fs → b ∉ ch → s.heap.get? b = some o → H b = none → ∃ sl, h'.get? b = some { o with slots := sl }) (free : ∀ b o, b ∉ ch → s.heap.get? b = some o → H b = none → H' b = none)
    (there : ∀ b o, b ∉ ch → s.heap.get? b = some o → ∃ o', h'.get? b = some o')
    (tups : ∀ b xs, H b = some (.tup xs) → H' b = some (.tup xs)) (frzs : ∀ b o u, H b = some (.frz o u) → H' b = some (.frz o u)) (tbls : ∀ b ps, H b = some (.tbl ps) → ∃ more, H' b = some (.tbl (ps ++ more)))
    (ns : ∀ m, s.heap.Ns X.env.locals m → h'.Ns X.env.locals m) (hok : HOk X.prog X.w H' h') (hg : AllBare g') :
    Inv X pins σ H' { s with heap := h', gens := g', drawn := d', toks := t' } := by
  have neL : ∀ b o, X.s_0.heap.get? b = some o → b ≠ X.env.locals := fun b o e => Nat.ne_of_lt (Nat.lt_of_lt_of_le (Heap.lt_size e) I.ok.above)
  have neC : ∀ b o, X.s_0.heap.get? b = some o → b ∉ X.ex → b ∉ ch := fun b o e hx hb => by
    rcases (hch b hb).1 with z | z
    · exact hx z
    · exact absurd (Nat.lt_of_lt_of_le (Heap.lt_size e) z) (Nat.lt_irrefl _)
  have cellK : ∀ x c, X.env.cells.lookup x = some c → ∀ v, s.heap.IsCell c v → h'.IsCell c v := fun x c e v ⟨o, ho, hd⟩ => by
    have nch : c ∉ ch := fun z => (hch c z).2.2.1 x c e rfl
    by_cases hc : c ∈ X.fs
    · obtain ⟨sl, q⟩ := slot c o (I.cne x c e) hc nch ho (I.freeC x c e)
      exact ⟨_, q, hd⟩
    · exact ⟨o, keep c o (I.cne x c e) hc nch ho (I.freeC x c e), hd⟩
  refine ⟨I.ok, I.os, hg, ⟨fun b o e n hb hx => ?_, fun b o e n hb hx => ?_, fun b o e n hx => ?_, fun b o e hx => ?_, fun b xs e => tups b xs (I.base.tups b xs e), fun b o xs e => frzs b o xs (I.base.frzs b o xs e), fun b ps e => ?_⟩, ?_, fun x c e => ?_, ?_, fun x c e => ?_, fun p hp => ?_, hok, I.len⟩
  · exact keep b o (neL b o e) hb (neC b o e hx) (I.base.keep b o e n hb hx) (I.base.free b o e n hx)
  · obtain ⟨sl, e1⟩ := I.base.slot b o e n hb hx
    obtain ⟨sl', e2⟩ := slot b _ (neL b o e) hb (neC b o e hx) e1 (I.base.free b o e n hx)
    exact ⟨sl', e2⟩
  · obtain ⟨o', e1⟩ := I.base.there b o e hx
    exact free b o' (neC b o e hx) e1 (I.base.free b o e n hx)
  · obtain ⟨o', e1⟩ := I.base.there b o e hx
    exact there b o' (neC b o e hx) e1
  · obtain ⟨m1, e1⟩ := I.base.tbls b ps e
    obtain ⟨m2, e2⟩ := tbls b _ e1
    exact ⟨m1 ++ m2, by rw [e2, Array.append_assoc]⟩
  · obtain ⟨m, hn, hl⟩ := I.loc
    refine ⟨m, ns m hn, fun i x v e1 e2 e3 => ?_⟩
    obtain ⟨u, r, l⟩ := hl i x v e1 e2 e3
    refine ⟨u, r, ?_⟩
    rcases l with l | ⟨k, c, e, z⟩
    · exact .inl l
    · exact .inr ⟨k, c, e, cellK x c e _ z⟩
  · obtain ⟨v, z⟩ := I.cell x c e
    exact ⟨v, cellK x c e v z⟩
  · obtain ⟨m, ⟨o, _, _, ho, _⟩, _⟩ := I.loc
    exact free _ o (fun z => (hch _ z).2.1 rfl) ho I.free
  · obtain ⟨v, o, ho, hd⟩ := I.cell x c e
    exact free c o (fun z => (hch c z).2.2.1 x c e rfl) ho (I.freeC x c e)
  · obtain ⟨e, n, ne, nf, d⟩ := I.pin p hp
    have nch : p.1 ∉ ch := fun z => (hch p.1 z).2.2.2 p hp rfl
    exact ⟨keep p.1 p.2 ne nf nch e n, free p.1 p.2 nch e n, ne, nf, d⟩
theorem Inv.un {t' : Nat} (I : Inv X pins σ H s) (u : Un X.fs [] H H' s.heap h') (hok : HOk X.prog X.w H' h') : Inv X pins σ H' { s with heap := h', toks := t' } := by
  obtain ⟨m, ⟨o, es, ep, ho, r⟩, _⟩ := id I.loc
  obtain ⟨sl, hL⟩ := u.any ho I.free (by simp)
  exact I.step (g' := s.gens) (d' := s.drawn) (ch := []) (fun _ z => nomatch z) (fun b o _ hb _ e n => u.keep b o e n hb (by simp)) (fun b o _ hb _ e n => u.slot b o e n hb (by simp)) (fun b o _ e n => u.free b o e n (by simp)) (fun b o _ e => u.there b o e (by simp)) u.tups u.frzs u.tbls (fun m' hm => by
    obtain ⟨o', es', ep', ho', r'⟩ := hm
    rw [ho] at ho'; cases ho'
    exact ⟨_, es', ep', hL, r'⟩) hok I.bare
theorem Inv.call {g' : Array GenState} {t' : Nat} {d' : Drawn} {ch : List Addr} (I : Inv X pins σ H s) (u : Un (frs X.stack) ch H H' s.heap h') (hok : HOk X.prog X.w H' h') (hg : AllBare g')
    (hch : ∀ b ∈ ch, (b ∈ X.ex ∨ X.s_0.heap.objs.size ≤ b) ∧ b ≠ X.env.locals ∧ (∀ x c, X.env.cells.lookup x = some c → c ≠ b) ∧ ∀ p ∈ X.pn ++ pins, p.1 ≠ b) :
    Inv X pins σ H' { s with heap := h', gens := g', drawn := d', toks := t' } := by
  obtain ⟨m, ⟨o, es, ep, ho, r⟩, _⟩ := id I.loc
  obtain ⟨sl, hL⟩ := u.any ho I.free fun z => (hch _ z).2.1 rfl
  exact I.step (ch := ch) hch (fun b o hL hb hc e n => u.keep b o e n (fun z => (List.mem_cons.mp (I.stkSub b z)).elim hL hb) hc) (fun b o _ _ hc e n => u.any e n hc) (fun b o hc e n => u.free b o e n hc) (fun b o hc e => u.there b o e hc) u.tups u.frzs u.tbls (fun m' hm => by
    obtain ⟨o', es', ep', ho', r'⟩ := hm
    rw [ho] at ho'; cases ho'
    exact ⟨_, es', ep', hL, r'⟩) hok hg
theorem Inv.turned {t' : Nat} {it : Addr} (I : Inv X pins σ H s) (k : ∀ b o, b ≠ it → s.heap.get? b = some o → h'.get? b = some o) (hn : H it = none) (hL : it ≠ X.env.locals)
    (h1 : it ∈ X.ex ∨ X.s_0.heap.objs.size ≤ it) (h2 : ∀ x c, X.env.cells.lookup x = some c → c ≠ it) (h3 : ∀ p ∈ X.pn ++ pins, p.1 ≠ it) : Inv X pins σ H { s with heap := h', toks := t' } := by
  have nit : ∀ b u, H b = some u → b ≠ it := fun b u e z => by rw [z, hn] at e; cases e
  refine I.step (g' := s.gens) (d' := s.drawn) (ch := [it]) (fun b hb => ?_) (fun b o _ _ hc e _ => k b o (fun z => hc (by simp [z])) e) (fun b o _ _ hc e _ => ⟨o.slots, k b o (fun z => hc (by simp [z])) e⟩) (fun _ _ _ _ n => n)
    (fun b o hc e => ⟨o, k b o (fun z => hc (by simp [z])) e⟩) (fun _ _ e => e) (fun _ _ _ e => e) (fun b ps e => ⟨#[], by rw [e]; simp⟩) (fun m hm => ?_) (fun b u e => ?_) I.bare
  · have e : b = it := by simpa using hb
    subst e
    exact ⟨h1, hL, h2, h3⟩
  · obtain ⟨o, es, ep, ho, r⟩ := hm
    exact ⟨o, es, ep, k _ o (Ne.symm hL) ho, r⟩
  · refine (I.hok b u e).stay (fun c v hc q => k c v ?_ q) (fun _ q => q) fun _ _ q => q
    rcases hc with z | z
    · rw [z]; exact nit b u e
    · exact nit c _ z
theorem Inv.tok (I : Inv X pins σ H s) (t : Nat) : Inv X pins σ H { s with toks := t } := I.un (h' := s.heap) (t' := t) Un.refl I.hok
theorem Inv.kept {t' : Nat} (I : Inv X pins σ H s) (k : ∀ b u, s.heap.get? b = some u → h'.get? b = some u) : Inv X pins σ H { s with heap := h', toks := t' } := I.un (Un.kept k) (I.hok.kept k)
theorem Inv.laid {a : Addr} {o : HO} {t' : Nat} (I : Inv X pins σ H s) (k : ∀ b u, s.heap.get? b = some u → h'.get? b = some u) (hp : s.heap.objs.size ≤ a) (new : ObjOk X.prog X.w (upd H a o) h' a o) :
    Inv X pins σ (upd H a o) { s with heap := h', toks := t' } := I.un (Un.laid k hp (I.hok.fresh hp)) (I.hok.laid k hp new)
theorem Inv.write {x e : Addr} {o : HO} {t' : Nat} (I : Inv X pins σ H s) (mu : Mut (H x)) (he : e = x ∨ H e = some (.own x)) (k : ∀ b u, b ≠ e → s.heap.get? b = some u → h'.get? b = some u) (heo : ∃ u, h'.get? e = some u)
    (new : ObjOk X.prog X.w (upd H x o) h' x o) : Inv X pins σ (upd H x o) { s with heap := h', toks := t' } := I.un (Un.write mu he k heo) (I.hok.write mu he k heo new)
theorem Inv.weak {σ' : List (Option V)} (I : Inv X pins σ H s) (hl : σ'.length = σ.length) (w : ∀ (i : Nat) v, σ'[i]? = some (some v) → σ[i]? = some (some v)) : Inv X pins σ' H s :=
  ⟨I.ok, I.os, I.bare, I.base, let ⟨m, hn, hl'⟩ := I.loc; ⟨m, hn, fun i x v e1 e2 e3 => hl' i x v e1 (w i v e2) e3⟩, I.cell, I.free, I.freeC, I.pin, I.hok, hl.trans I.len⟩
theorem Inv.pins_of {pins' : List (Addr × Obj)} (I : Inv X pins σ H s) (h : ∀ p ∈ pins', s.heap.get? p.1 = some p.2 ∧ H p.1 = none ∧ p.1 ≠ X.env.locals ∧ p.1 ∉ X.fs ∧ ∀ v, p.2.data ≠ .cell v) : Inv X pins' σ H s :=
  ⟨I.ok, I.os, I.bare, I.base, I.loc, I.cell, I.free, I.freeC, fun p hp => (List.mem_append.mp hp).elim (fun z => I.pin p (List.mem_append_left _ z)) (h p), I.hok, I.len⟩
theorem nodup_ix {N : List Str} (hN : N.Nodup) {i j : Nat} {x : Str} (a : N[i]? = some x) (b : N[j]? = some x) : i = j := by
  obtain ⟨h1, e1⟩ := List.getElem?_eq_some_iff.mp a
  obtain ⟨h2, e2⟩ := List.getElem?_eq_some_iff.mp b
  exact (List.getElem_inj hN).mp (e1.trans e2.symm)
theorem store_ok2 {M : Model} {A : Around} {E : Value → Shared → Prop} {i : Nat} {x : Str} {v : V} {u : Value} {Q : Unit → Shared → Prop} (I : Inv X pins σ H s) (hN : X.N.Nodup) (hi : X.N[i]? = some x) (hx : Loc X.env.scope x) (r : RelV v u)
    (h : ∀ s', Inv X pins (σ.set i (some v)) H s' → (∃ a, Heap.SameBut a s.heap s'.heap ∧ (a = X.env.locals ∨ X.env.cells.lookup x = some a)) → Q () s') (hf : X.fn x = true ∨ X.env.scope.names.lookup x = some .local := by first | exact .inl rfl | exact .inr rfl | assumption) : wpAny M A (storeName X.env x u) Q E s := by
  obtain ⟨m, hn, hl⟩ := id I.loc
  have hcls : (X.env.scope.kind == .class || (X.env.scope.kind == .module && X.env.locals != X.env.globals)) = false := by rw [I.ok.kind]; rfl
  have hiσ : i < σ.length := by rw [I.len]; exact (List.getElem?_eq_some_iff.mp hi).1
  have cne := I.cne
  have tracked : ∀ {a : Addr} {h' : Heap}, (∃ o, s.heap.get? a = some o ∧ H a = none) → Heap.SameBut a s.heap h' → HOk X.prog X.w H h' := fun {a h'} ha hs b ob e => by
    obtain ⟨_, _, hfree⟩ := ha
    refine (I.hok b ob e).stay (fun c w' hc q => (hs.2 c ?_).trans q) (fun _ q => q) fun _ _ q => q
    rintro rfl
    rcases hc with rfl | hc
    · rw [hfree] at e; cases e
    · rw [hfree] at hc; cases hc
  rcases hx with hk | hk
  · refine wpAny_storeName_local hk hn (fun h' hn' hs => ?_) hcls
    obtain ⟨oL, _, _, hoL, _⟩ := id hn
    refine h _ ⟨I.ok, I.os, I.bare, ⟨fun b o e n hb hx => ?_, fun b o e n hb hx => ?_, I.base.free, fun b o e hx => ?_, I.base.tups, I.base.frzs, I.base.tbls⟩, ⟨_, hn', fun j y v' e1 e2 e3 => ?_⟩, fun y c e => ?_, I.free, I.freeC, fun p hp => ?_, tracked ⟨oL, hoL, I.free⟩ hs, by simpa using I.len⟩ ⟨_, hs, .inl rfl⟩
    · exact (hs.2 b (Nat.ne_of_lt (Nat.lt_of_lt_of_le (Heap.lt_size e) I.ok.above))).trans (I.base.keep b o e n hb hx)
    · obtain ⟨sl, e1⟩ := I.base.slot b o e n hb hx
      exact ⟨sl, (hs.2 b (Nat.ne_of_lt (Nat.lt_of_lt_of_le (Heap.lt_size e) I.ok.above))).trans e1⟩
    · obtain ⟨o', e1⟩ := I.base.there b o e hx
      exact ⟨o', (hs.2 b (Nat.ne_of_lt (Nat.lt_of_lt_of_le (Heap.lt_size e) I.ok.above))).trans e1⟩
    · by_cases hj : j = i
      · subst hj
        rw [hi] at e1; cases e1
        rw [List.getElem?_set_self hiσ] at e2
        cases e2
        exact ⟨u, r, .inl ⟨hk, by simp⟩⟩
      · rw [List.getElem?_set_ne (Ne.symm hj)] at e2
        obtain ⟨u', r', q⟩ := hl j y v' e1 e2 e3
        refine ⟨u', r', ?_⟩
        rcases q with ⟨k, e⟩ | ⟨k, c, e, z⟩
        · refine .inl ⟨k, ?_⟩
          have : y ≠ x := fun e => hj (nodup_ix hN e1 (e ▸ hi))
          simp [this, e]
        · exact .inr ⟨k, c, e, z.sameBut hs (cne y c e)⟩
    · obtain ⟨w', z⟩ := I.cell y c e
      exact ⟨w', z.sameBut hs (cne y c e)⟩
    · obtain ⟨e, n, ne, nf, d⟩ := I.pin p hp
      exact ⟨(hs.2 p.1 ne).trans e, n, ne, nf, d⟩
  · have hfn : X.fn x = true := by
      rcases hf with z | z
      · exact z
      · rw [z] at hk; cases hk
    obtain ⟨c, hc⟩ := I.ok.has x (.inl hk)
    obtain ⟨w', z⟩ := I.cell x c hc
    refine wpAny_storeName_cell I.ok.kind hk hc z (fun h' hc' hs => ?_)
    obtain ⟨oc, hoc, hocd⟩ := id z
    refine h { s with heap := h' } ⟨I.ok, I.os, I.bare, ⟨fun b o e n hb hx => ?_, fun b o e n hb hx => ?_, I.base.free, fun b o e hx => ?_, I.base.tups, I.base.frzs, I.base.tbls⟩, ⟨m, hn.sameBut hs (Ne.symm (cne x c hc)), fun j y v' e1 e2 e3 => ?_⟩, fun y c' e => ?_, I.free, I.freeC, fun p hp => ?_, tracked ⟨oc, hoc, I.freeC x c hc⟩ hs, by simpa using I.len⟩ ⟨c, hs, .inr hc⟩
    · exact (hs.2 b (Nat.ne_of_lt (Nat.lt_of_lt_of_le (Heap.lt_size e) (I.ok.cab x c hfn hc)))).trans (I.base.keep b o e n hb hx)
    · obtain ⟨sl, e1⟩ := I.base.slot b o e n hb hx
      exact ⟨sl, (hs.2 b (Nat.ne_of_lt (Nat.lt_of_lt_of_le (Heap.lt_size e) (I.ok.cab x c hfn hc)))).trans e1⟩
    · obtain ⟨o', e1⟩ := I.base.there b o e hx
      exact ⟨o', (hs.2 b (Nat.ne_of_lt (Nat.lt_of_lt_of_le (Heap.lt_size e) (I.ok.cab x c hfn hc)))).trans e1⟩
    · by_cases hj : j = i
      · subst hj
        rw [hi] at e1; cases e1
        rw [List.getElem?_set_self hiσ] at e2
        cases e2
        exact ⟨u, r, .inr ⟨.inl hk, c, hc, hc'⟩⟩
      · rw [List.getElem?_set_ne (Ne.symm hj)] at e2
        obtain ⟨u', r', q⟩ := hl j y v' e1 e2 e3
        refine ⟨u', r', ?_⟩
        rcases q with q | ⟨k, c', e, z'⟩
        · exact .inl q
        · refine .inr ⟨k, c', e, z'.sameBut hs ?_⟩
          rintro rfl
          exact hj (nodup_ix hN e1 (I.ok.inj _ _ _ e hc ▸ hi))
    · by_cases hcc : c' = c
      · subst hcc; exact ⟨_, hc'⟩
      · obtain ⟨w2, z2⟩ := I.cell y c' e
        exact ⟨w2, z2.sameBut hs hcc⟩
    · obtain ⟨e, n, ne, nf, d⟩ := I.pin p hp
      refine ⟨(hs.2 p.1 ?_).trans e, n, ne, nf, d⟩
      intro q
      rw [q, hoc] at e
      have q' : oc = p.2 := Option.some.inj e
      exact d w' (by rw [← q']; exact hocd)
theorem store_ok {M : Model} {A : Around} {E : Value → Shared → Prop} {i : Nat} {x : Str} {v : V} {u : Value} {Q : Unit → Shared → Prop} (I : Inv X pins σ H s) (hN : X.N.Nodup) (hi : X.N[i]? = some x) (hx : Loc X.env.scope x) (r : RelV v u)
    (h : ∀ s', Inv X pins (σ.set i (some v)) H s' → Q () s') (hf : X.fn x = true ∨ X.env.scope.names.lookup x = some .local := by first | exact .inl rfl | exact .inr rfl | assumption) : wpAny M A (storeName X.env x u) Q E s :=
  store_ok2 I hN hi hx r (fun s' I' _ => h s' I') hf
theorem Inv.call' {s' : Shared} {ch : List Addr} (I : Inv X pins σ H s) (ho : s'.os = s.os) (u : Un (frs X.stack) ch H H' s.heap s'.heap) (hok : HOk X.prog X.w H' s'.heap) (hg : AllBare s'.gens)
    (hch : ∀ b ∈ ch, (b ∈ X.ex ∨ X.s_0.heap.objs.size ≤ b) ∧ b ≠ X.env.locals ∧ (∀ x c, X.env.cells.lookup x = some c → c ≠ b) ∧ ∀ p ∈ X.pn ++ pins, p.1 ≠ b) : Inv X pins σ H' s' := by
  obtain ⟨h', g', d', t', o'⟩ := s'
  have e : o' = s.os := ho
  subst e
  exact I.call (g' := g') (t' := t') (d' := d') u hok hg hch
end
abbrev XK := Value → Option Addr → Hp → Prop
abbrev St := List (Option V)
abbrev VK := V → Hp → Prop
abbrev TE := St → Hp → VK → Prop
abbrev TT := St → Hp → (Bool → Hp → Prop) → Prop
abbrev TA := St → Hp → (List V → Hp → Prop) → Prop
structure Ends where
  nx : St → Hp → Prop
  rt : VK
  bk : St → Hp → Prop := fun _ _ => False
  ct : St → Hp → Prop := fun _ _ => False
abbrev TS := Ends → St → Hp → Prop
def EP (X : Cx) (pins : List (Addr × Obj)) (σ : St) (Q : VK) (u : Value) (s' : Shared) : Prop := ∃ v H', Inv X pins σ H' s' ∧ RelV v u ∧ Q v H'
def TP (X : Cx) (pins : List (Addr × Obj)) (σ : St) (Q : Bool → Hp → Prop) (b : Bool) (s' : Shared) : Prop := ∃ H', Inv X pins σ H' s' ∧ Q b H'
def AP (X : Cx) (pins : List (Addr × Obj)) (σ : St) (Q : List V → Hp → Prop) (us : List Value) (s' : Shared) : Prop := ∃ vs H', Inv X pins σ H' s' ∧ Vals vs us ∧ Q vs H'
def SP (X : Cx) (pins : List (Addr × Obj)) (D : Ends) (f : Flow) (s' : Shared) : Prop :=
  match f with
  | .next => ∃ σ' H', Inv X pins σ' H' s' ∧ D.nx σ' H'
  | .brk => ∃ σ' H', Inv X pins σ' H' s' ∧ D.bk σ' H'
  | .cont => ∃ σ' H', Inv X pins σ' H' s' ∧ D.ct σ' H'
  | .ret u => ∃ v σ' H', Inv X pins σ' H' s' ∧ RelV v u ∧ D.rt v H'
def PE (X : Cx) (e : Expr) (t : TE) : Prop :=
  ∀ (pins : List (Addr × Obj)) (s : Shared) (σ : St) (H : Hp) (Q : VK), Inv X pins σ H s → t σ H Q → wpAny (model X.prog X.w) X.A (eval e X.env) (EP X pins σ Q) X.xe s
def PT (X : Cx) (e : Expr) (t : TT) : Prop :=
  ∀ (pins : List (Addr × Obj)) (s : Shared) (σ : St) (H : Hp) (Q : Bool → Hp → Prop), Inv X pins σ H s → t σ H Q → wpAny (model X.prog X.w) X.A (isTrue e X.env (eval e X.env)) (TP X pins σ Q) X.xe s
def PW (X : Cx) (e : Expr) (t : TT) : Prop :=
  ∀ (whole : Sem Value) (pins : List (Addr × Obj)) (s : Shared) (σ : St) (H : Hp) (Q : Bool → Hp → Prop), Inv X pins σ H s → t σ H Q → wpAny (model X.prog X.w) X.A (isTrue e X.env whole) (TP X pins σ Q) X.xe s
theorem PW.pt {X : Cx} {e : Expr} {t : TT} (h : PW X e t) : PT X e t := h _
def PA (X : Cx) (es : List Expr) (t : TA) : Prop :=
  ∀ (pos : Pos) (pins : List (Addr × Obj)) (s : Shared) (σ : St) (H : Hp) (Q : List V → Hp → Prop), Inv X pins σ H s → t σ H Q → wpAny (model X.prog X.w) X.A (spliced (backTo pos (starEach es X.env))) (AP X pins σ Q) X.xe s
def PS (X : Cx) (st : Stmt) (t : TS) : Prop :=
  ∀ (pins : List (Addr × Obj)) (s : Shared) (σ : St) (H : Hp) (D : Ends), Inv X pins σ H s → t D σ H → wpAny (model X.prog X.w) X.A (exec st X.env) (SP X pins D) X.xe s
def PSs (X : Cx) (st : List Stmt) (t : TS) : Prop :=
  ∀ (pins : List (Addr × Obj)) (s : Shared) (σ : St) (H : Hp) (D : Ends), Inv X pins σ H s → t D σ H → wpAny (model X.prog X.w) X.A (execs st X.env) (SP X pins D) X.xe s
theorem thn {α : Type} {t : Sem α} {Q Q' : α → Shared → Prop} {M : Model} {A : Around} {E : Value → Shared → Prop} {s : Shared} (h : wpAny M A t Q E s) (hQ : ∀ a s, Q a s → Q' a s) : wpAny M A t Q' E s := wpAny_mono h hQ fun _ _ x => x
end L2
namespace L2
open PySem PySem.Spec PyProof.Rows
section
variable {X : Cx}
theorem bin {a b : Expr} {ta tb : TE} (ha : PE X a ta) (hb : PE X b tb) {pins : List (Addr × Obj)} {s : Shared} {σ : St} {H : Hp} {R : V → V → Hp → Prop} (I : Inv X pins σ H s) (h : ta σ H fun x H1 => tb σ H1 fun y H2 => R x y H2)
    {α : Type} {Q : α → Shared → Prop} {f : Value → Value → Sem α}
    (hf : ∀ v u s2 x y H2, Inv X pins σ H2 s2 → RelV x v → RelV y u → R x y H2 → wpAny (model X.prog X.w) X.A (f v u) Q X.xe s2) :
    wpAny (model X.prog X.w) X.A (eval a X.env) (fun v s₁ => wpAny (model X.prog X.w) X.A (eval b X.env) (fun u s₂ => wpAny (model X.prog X.w) X.A (f v u) Q X.xe s₂) X.xe s₁) X.xe s := by
  refine thn (ha pins s σ H _ I h) fun v s1 ⟨x, H1, I1, r1, q1⟩ => ?_
  refine thn (hb pins s1 σ H1 _ I1 q1) fun u s2 ⟨y, H2, I2, r2, q2⟩ => ?_
  exact hf v u s2 x y H2 I2 r1 r2 q2
def tVar (i : Nat) : TE := fun σ H Q => ∃ v, σ[i]? = some (some v) ∧ Q v H
def tC (v : V) : TE := fun _ H Q => Q v H
theorem pe_var {i : Nat} {x : Str} {pos : Pos} (hN : X.N[i]? = some x) (hv : Vis X.env.scope x) (hd : (x == ("__debug__" : Str)) = false := by decide) (hcd : (x == ("__classdict__" : Str)) = false := by decide) : PE X (.Name x pos) (tVar i) := by
  intro pins s σ H Q I h
  obtain ⟨v, e, h⟩ := h
  obtain ⟨m, hn, hl⟩ := I.loc
  obtain ⟨u, r, l⟩ := hl i x v hN e hv
  have fin : EP X pins σ Q u s := ⟨v, H, I, r, h⟩
  rcases l with ⟨hk, hm⟩ | ⟨hk, c, hc, hcell⟩
  · exact wpAny_Name (wpAny_loadName_local I.ok.kind hk hn hm fin) hd
  · rcases hk with hk | hk
    · exact wpAny_Name (wpAny_loadName_cell I.ok.kind hk hc hcell fin) hd
    · exact wpAny_Name (wpAny_loadName_free I.ok.kind hk hc hcell fin hcd) hd
theorem pe_int {i j pos} : PE X (.Constant (.int i) j pos) (tC (.int i)) := fun _ _ _ H _ I h => wpAny_Constant_int ⟨.int i, H, I.tok _, ⟨_, rfl⟩, h⟩
theorem pe_bl {b j pos} : PE X (.Constant (.bool b) j pos) (tC (.bl b)) := fun _ _ _ H _ I h => Constant_bool ⟨.bl b, H, I, rfl, h⟩
theorem pe_non {j pos} : PE X (.Constant .none j pos) (tC .non) := fun _ _ _ H _ I h => Constant_none ⟨.non, H, I, rfl, h⟩
def Gl (X : Cx) (x : Str) : Prop := X.env.kindOf x = some .globalImplicit
theorem ld_glob {E : Value → Shared → Prop} {pins : List (Addr × Obj)} {s : Shared} {σ : St} {H : Hp} {x : Str} {u : Value} {pos : Pos} {Q : Value → Shared → Prop} (I : Inv X pins σ H s) (hg : Gl X x) (hm : X.mg x = some u) (h : Q u s)
    (hd : (x == ("__debug__" : Str)) = false := by decide) : wpAny (model X.prog X.w) X.A (eval (.Name x pos) X.env) Q E s :=
  Calls.Name_function_global I.ok.kind hg (Calls.loadGlobal_global (by rw [I.ok.glob]; exact I.mod.glob.keeps I.bk) hm h) hd
theorem ld_blt {E : Value → Shared → Prop} {pins : List (Addr × Obj)} {s : Shared} {σ : St} {H : Hp} {x : Str} {u : Value} {pos : Pos} {Q : Value → Shared → Prop} (I : Inv X pins σ H s) (hg : Gl X x) (hm : X.mg x = none) (hv : bootBuiltins x = some u) (h : Q u s)
    (hn : x ≠ "__name__" := by decide) (hd : (x == ("__debug__" : Str)) = false := by decide) : wpAny (model X.prog X.w) X.A (eval (.Name x pos) X.env) Q E s := by
  obtain ⟨mb, h1, h2⟩ := I.mod.blt
  exact Calls.Name_function_global I.ok.kind hg (Calls.loadGlobal_builtin (by rw [I.ok.glob]; exact I.mod.glob.keeps I.bk) hm (by rw [I.ok.blt]; exact h1.keeps I.bk) ((h2 x hn).trans hv) h) hd
theorem pe_glob {x : Str} {v : V} {u : Value} {pos : Pos} (hg : Gl X x) (hm : X.mg x = some u) (r : RelV v u) (hd : (x == ("__debug__" : Str)) = false := by decide) : PE X (.Name x pos) (tC v) :=
  fun _ _ _ H _ I h => ld_glob I hg hm ⟨v, H, I, r, h⟩ hd
variable {a b : Expr} {ta tb : TE} {pos : Pos}
def PC (X : Cx) (op : CmpOp) (a b : Expr) (t : TE) : Prop :=
  ∀ (pins : List (Addr × Obj)) (s : Shared) (σ : St) (H : Hp) (Q : VK), Inv X pins σ H s → t σ H Q →
    wpAny (model X.prog X.w) X.A (eval a X.env) (fun v s₁ => wpAny (model X.prog X.w) X.A (eval b X.env) (fun u s₂ => wpAny (model X.prog X.w) X.A (compareOp op v u) (EP X pins σ Q) X.xe s₂) X.xe s₁) X.xe s
def tB (t : TE) : TT := fun σ H Q => t σ H fun x H1 => ∃ c, x = .bl c ∧ Q c H1
theorem pt_cmp {op : CmpOp} {t : TE} (h : PC X op a b t) (h1 : behindInMarks op b = false := by first | exact nobehind _ (by decide) (by decide) | rfl) : PT X (.Compare a [op] [b] pos) (tB t) := by
  intro pins s σ H Q I hw
  refine wpAny_isTrue_Compare1 (thn (h pins s σ H _ I hw) fun v s1 h1 => thn h1 fun u s2 h2 => thn h2 fun c s3 ⟨x, H1, I1, r1, q1⟩ => ?_) h1
  obtain ⟨d, rfl, q⟩ := q1
  cases r1
  exact wpAny_truthy_bool ⟨H1, I1, q⟩
variable {tA tB' : TT} {rest : List Expr}
def tAnd (t u : TT) : TT := fun σ H Q => t σ H fun c H1 => if c = true then u σ H1 Q else Q false H1
def tOr (t u : TT) : TT := fun σ H Q => t σ H fun c H1 => if c = true then Q true H1 else u σ H1 Q
def tNot (t : TT) : TT := fun σ H Q => t σ H fun c H1 => Q (!c) H1
theorem pw_and1 (ha : PT X a tA) : PW X (.BoolOp .And [a] pos) tA := by
  intro wh pins s σ H Q I h
  refine isTrue_and (thn (ha pins s σ H Q I h) fun c s1 e => ?_)
  cases c with
  | true => exact isTrue_and_nil e
  | false => exact e
theorem pw_or1 (ha : PT X a tA) : PW X (.BoolOp .Or [a] pos) tA := by
  intro wh pins s σ H Q I h
  refine isTrue_or (thn (ha pins s σ H Q I h) fun c s1 e => ?_)
  cases c with
  | false => exact isTrue_or_nil e
  | true => exact e
theorem pw_and (ha : PT X a tA) (hb : PW X (.BoolOp .And (b :: rest) pos) tB') : PW X (.BoolOp .And (a :: b :: rest) pos) (tAnd tA tB') := by
  intro wh pins s σ H Q I h
  refine isTrue_and (thn (ha pins s σ H _ I h) fun c s1 ⟨H1, I1, q1⟩ => ?_)
  cases c with
  | true => exact hb wh pins s1 σ H1 Q I1 q1
  | false => exact ⟨H1, I1, q1⟩
theorem pw_or (ha : PT X a tA) (hb : PW X (.BoolOp .Or (b :: rest) pos) tB') : PW X (.BoolOp .Or (a :: b :: rest) pos) (tOr tA tB') := by
  intro wh pins s σ H Q I h
  refine isTrue_or (thn (ha pins s σ H _ I h) fun c s1 ⟨H1, I1, q1⟩ => ?_)
  cases c with
  | true => exact ⟨H1, I1, q1⟩
  | false => exact hb wh pins s1 σ H1 Q I1 q1
theorem pt_not (ha : PT X a tA) : PT X (.UnaryOp .Not a pos) (tNot tA) := by
  intro pins s σ H Q I h
  exact isTrue_not (ha pins s σ H (fun c H1 => Q (!c) H1) I h)
def tAndV (ta tb : TE) : TE := fun σ H Q => ta σ H fun x H1 => ∃ c, x = .bl c ∧ if c = true then tb σ H1 Q else Q (.bl false) H1
def tNotV (ta : TE) : TE := fun σ H Q => ta σ H fun x H1 => ∃ c, x = .bl c ∧ Q (.bl (!c)) H1
theorem pe_one {op} {t : TE} (h : PE X a t) : PE X (.BoolOp op [a] pos) t := fun pins s σ H Q I hw => BoolOp_one (h pins s σ H Q I hw)
theorem pe_and (ha : PE X a ta) (hb : PE X (.BoolOp .And (b :: rest) pos) tb) : PE X (.BoolOp .And (a :: b :: rest) pos) (tAndV ta tb) := by
  intro pins s σ H Q I h
  refine BoolOp_and (thn (ha pins s σ H _ I h) fun v s1 ⟨x, H1, I1, r1, q1⟩ => ?_)
  obtain ⟨c, rfl, q1⟩ := q1
  cases r1
  refine wpAny_truthy_bool ?_
  cases c with
  | true => exact hb pins s1 σ H1 Q I1 q1
  | false => exact ⟨.bl false, H1, I1, rfl, q1⟩
theorem pe_not (ha : PE X a ta) : PE X (.UnaryOp .Not a pos) (tNotV ta) := by
  intro pins s σ H Q I h
  refine UnaryOp_ (thn (ha pins s σ H _ I h) fun v s1 ⟨x, H1, I1, r1, q1⟩ => ?_)
  obtain ⟨c, rfl, q1⟩ := q1
  cases r1
  exact not_of (wpAny_truthy_bool ⟨.bl (!c), H1, I1, rfl, q1⟩)
def tIf (t : TT) (ta tb : TE) : TE := fun σ H Q => t σ H fun c H1 => if c = true then ta σ H1 Q else tb σ H1 Q
theorem pe_ifExp {c : Expr} (hc : PT X c tA) (ha : PE X a ta) (hb : PE X b tb) : PE X (.IfExp c a b pos) (tIf tA ta tb) := by
  intro pins s σ H Q I h
  refine wpAny_IfExp (thn (hc pins s σ H _ I h) fun d s1 ⟨H1, I1, q1⟩ => ?_)
  cases d with
  | true => exact ha pins s1 σ H1 Q I1 q1
  | false => exact hb pins s1 σ H1 Q I1 q1
end
end L2
namespace L2
open PySem PySem.Spec PyProof.Rows
def SqL (K : PySem.W.Frag) (H : Hp) (a : Addr) (xs : List V) : Prop :=
  Rd H a (.lst xs) ∨
    ∃ (o : Obj) (its : Array Value) (n : Nat), K.lookup a = some o ∧ o.cls = .type "list" ∧ o.dict = none ∧ o.data = .seq its n ∧ its.size ≤ sizeLine ∧ Vals xs its.toList
def SqT (K : PySem.W.Frag) (H : Hp) (a : Addr) (xs : List V) : Prop :=
  Rd H a (.tup xs) ∨
    ∃ (o : Obj) (its : Array Value) (n : Nat), K.lookup a = some o ∧ o.cls = .type "tuple" ∧ o.data = .seq its n ∧ its.size ≤ sizeLine ∧ Vals xs its.toList
def absV : Value → Option V
  | .none => some .non
  | .bool b => some (.bl b)
  | .int i _ => some (.int i)
  | .str x _ => some (.str x)
  | .bytes b _ => some (.byt b)
  | .float b _ => some (.flt b)
  | .ref a => some (.ref a)
  | .type n => some (.ty n)
  | _ => none
theorem RelV.abs {x : V} {u : Value} (r : RelV x u) : absV u = some x := by
  cases x with
  | non => cases r; rfl
  | bl _ => cases r; rfl
  | int _ => obtain ⟨t, rfl⟩ := r; rfl
  | str _ => obtain ⟨t, rfl⟩ := r; rfl
  | byt _ => obtain ⟨t, rfl⟩ := r; rfl
  | flt _ => obtain ⟨t, rfl⟩ := r; rfl
  | ref _ => cases r; rfl
  | ty _ => cases r; rfl
theorem RelV.inj {x y : V} {u : Value} (r : RelV x u) (q : RelV y u) : x = y := Option.some.inj (r.abs.symm.trans q.abs)
theorem Vals.inj : ∀ {xs ys : List V} {us : List Value}, Vals xs us → Vals ys us → xs = ys
  | _, _, _, .nil, .nil => rfl
  | _, _, _, .cons r t, .cons r' t' => by rw [r.inj r', Vals.inj t t']
section
variable {X : Cx} {pins : List (Addr × Obj)} {σ : St} {H : Hp} {s : Shared} {a : Addr} {xs ys : List V}
theorem SqL.of {K : PySem.W.Frag} (h : H a = some (.lst xs)) : SqL K H a xs := .inl (.inl h)
theorem SqT.of {K : PySem.W.Frag} (h : H a = some (.tup xs)) : SqT K H a xs := .inl (.inl h)
theorem Inv.list (I : Inv X pins σ H s) (h : SqL X.K H a xs) : ∃ its : List Value, Vals xs its ∧ PlainL s.heap a its.toArray ∧ xs.length ≤ sizeLine := by
  rcases h with h | ⟨o, its, n, hk, hc, hd, hs, hz, r⟩
  · obtain ⟨z, its, n, r, e⟩ := h.ok I.hok
    exact ⟨its, r, ⟨_, n, e, rfl, rfl, rfl⟩, z⟩
  · refine ⟨its.toList, r, ⟨o, n, I.kIn a o hk, hc, hd, by simpa using hs⟩, ?_⟩
    have e := r.length
    simp only [Array.length_toList] at e
    omega
theorem Inv.tuple (I : Inv X pins σ H s) (h : SqT X.K H a xs) : ∃ its : List Value, Vals xs its ∧ IsTup s.heap a its.toArray ∧ xs.length ≤ sizeLine := by
  rcases h with h | ⟨o, its, n, hk, hc, hs, hz, r⟩
  · obtain ⟨z, its, r, p⟩ := h.ok I.hok
    exact ⟨its, r, p, z⟩
  · refine ⟨its.toList, r, ⟨o, I.kIn a o hk, hc, n, by simpa using hs⟩, ?_⟩
    have e := r.length
    simp only [Array.length_toList] at e
    omega
theorem Inv.list_inj (I : Inv X pins σ H s) (h : SqL X.K H a xs) (h' : SqL X.K H a ys) : xs = ys := by
  obtain ⟨its, r, ⟨o, n, e, _, _, d⟩, _⟩ := I.list h
  obtain ⟨its', r', ⟨o', n', e', _, _, d'⟩, _⟩ := I.list h'
  rw [e] at e'; cases e'
  rw [d] at d'
  injection d' with d1 _
  have : its = its' := by simpa using congrArg Array.toList d1
  subst this
  exact r.inj r'
end
abbrev Cx.wish (X : Cx) (E : Value → Shared → Prop) : Cx := { X with xe := E }
abbrev Cx.nox (X : Cx) : Cx := X.wish fun _ _ => False
theorem Cx.Ok.wish {X : Cx} (ok : X.Ok) (E : Value → Shared → Prop) : (X.wish E).Ok :=
  ⟨ok.mod, ok.kind, ok.glob, ok.blt, ok.above, ok.inj, ok.has, ok.cab, ok.hd, ok.frames, ok.stk, ok.exf, ok.bs, ok.bsz, ok.noex, ok.exfs, ok.funs, ok.frf⟩
theorem Cx.Ok.unwish {X : Cx} {E : Value → Shared → Prop} (ok : (X.wish E).Ok) : X.Ok :=
  ⟨ok.mod, ok.kind, ok.glob, ok.blt, ok.above, ok.inj, ok.has, ok.cab, ok.hd, ok.frames, ok.stk, ok.exf, ok.bs, ok.bsz, ok.noex, ok.exfs, ok.funs, ok.frf⟩
section
variable {X : Cx} {pins : List (Addr × Obj)} {σ : St} {H : Hp} {s : Shared} {E : Value → Shared → Prop}
theorem Inv.wish (I : Inv X pins σ H s) (E : Value → Shared → Prop) : Inv (X.wish E) pins σ H s := ⟨I.ok.wish E, I.os, I.bare, I.base, I.loc, I.cell, I.free, I.freeC, I.pin, I.hok, I.len⟩
theorem Inv.unwish (I : Inv (X.wish E) pins σ H s) : Inv X pins σ H s := ⟨I.ok.unwish, I.os, I.bare, I.base, I.loc, I.cell, I.free, I.freeC, I.pin, I.hok, I.len⟩
theorem SP.unwish {D : Ends} {f : Flow} {s' : Shared} (h : SP (X.wish E) pins D f s') : SP X pins D f s' := by
  cases f with
  | next => obtain ⟨σ', H', I, q⟩ := h; exact ⟨σ', H', I.unwish, q⟩
  | brk => obtain ⟨σ', H', I, q⟩ := h; exact ⟨σ', H', I.unwish, q⟩
  | cont => obtain ⟨σ', H', I, q⟩ := h; exact ⟨σ', H', I.unwish, q⟩
  | ret u => obtain ⟨v, σ', H', I, r, q⟩ := h; exact ⟨v, σ', H', I.unwish, r, q⟩
theorem PSs.nox {st : List Stmt} {t : TS} (h : PSs X.nox st t) : PSs X st t := fun pins s σ H D I hw =>
  wpAny_mono (h pins s σ H D (I.wish _) hw) (fun _ _ q => q.unwish) fun _ _ z => False.elim z
end
section
variable {X : Cx} {st : Stmt} {rest : List Stmt} {t u : TS} {e : Expr} {te : TE} {pos : Pos}
def tNext : TS := fun D σ H => D.nx σ H
def tSeq (t u : TS) : TS := fun D σ H => t { D with nx := u D } σ H
theorem pss_nil : PSs X [] tNext := fun _ _ σ H _ I h => wpAny_execs_nil ⟨σ, H, I, h⟩
theorem pss_cons (h1 : PS X st t) (h2 : PSs X rest u) : PSs X (st :: rest) (tSeq t u) := by
  intro pins s σ H D I h
  refine wpAny_execs_cons (thn (h1 pins s σ H { D with nx := u D } I h) fun f s1 q => ?_)
  cases f with
  | next =>
    obtain ⟨σ', H', I', q⟩ := q
    exact h2 pins s1 σ' H' D I' q
  | ret v => exact q
  | brk => exact q
  | cont => exact q
theorem pss_one (h1 : PS X st t) : PSs X [st] t := by
  intro pins s σ H D I h
  refine wpAny_execs_cons (thn (h1 pins s σ H D I h) fun f s1 q => ?_)
  cases f with
  | next => exact wpAny_execs_nil q
  | ret v => exact q
  | brk => exact q
  | cont => exact q
theorem Inv.quiet {pins : List (Addr × Obj)} {σ : St} {H : Hp} {s : Shared} (I : Inv X pins σ H s) : interactive X.env = false := by simp [interactive, I.ok.kind]
def tDrop (te : TE) : TS := fun D σ H => te σ H fun _ H1 => D.nx σ H1
theorem ps_expr (he : PE X e te) (hs : swapsWith e none pos.line X.env = pure false := by rfl) : PS X (.Expr e pos) (tDrop te) := by
  intro pins s σ H D I h
  exact wpAny_Expr_any (thn (he pins s σ H _ I h) fun v s1 ⟨x, H1, I1, r1, q1⟩ => ⟨σ, H1, I1, q1⟩) I.quiet hs
def tRet (te : TE) : TS := fun D σ H => te σ H D.rt
theorem ps_ret (he : PE X e te) : PS X (.Return (some e) pos) (tRet te) := by
  intro pins s σ H D I h
  exact wpAny_Return_some (thn (he pins s σ H _ I h) fun v s1 ⟨x, H1, I1, r1, q1⟩ => ⟨x, σ, H1, I1, r1, q1⟩)
def tIfS (c : TT) (t u : TS) : TS := fun D σ H => c σ H fun b H1 => if b = true then t D σ H1 else u D σ H1
theorem ps_if {c : Expr} {a b : List Stmt} {tc : TT} (hc : PT X c tc) (ha : PSs X a t) (hb : PSs X b u) : PS X (.If c a b pos) (tIfS tc t u) := by
  intro pins s σ H D I h
  refine wpAny_If (thn (hc pins s σ H _ I h) fun d s1 ⟨H1, I1, q1⟩ => ?_)
  cases d with
  | true => exact ha pins s1 σ H1 D I1 q1
  | false => exact hb pins s1 σ H1 D I1 q1
end
abbrev TG := V → St → Hp → (St → Hp → Prop) → Prop
abbrev TGs := List V → St → Hp → (St → Hp → Prop) → Prop
def PG (X : Cx) (target : Expr) (t : TG) : Prop :=
  ∀ (pins : List (Addr × Obj)) (s : Shared) (σ : St) (H : Hp) (v : V) (u : Value) (Q : St → Hp → Prop), Inv X pins σ H s → RelV v u → t v σ H Q →
    wpAny (model X.prog X.w) X.A (assign target X.env u) (fun _ s' => ∃ σ' H', Inv X pins σ' H' s' ∧ Q σ' H') X.xe s
def PGs (X : Cx) (ts : List Expr) (t : TGs) : Prop :=
  ∀ (pins : List (Addr × Obj)) (s : Shared) (σ : St) (H : Hp) (vs : List V) (us : List Value) (Q : St → Hp → Prop), Inv X pins σ H s → Vals vs us → t vs σ H Q →
    wpAny (model X.prog X.w) X.A (assignInOrder ((assignEach ts X.env).map (·.2)) us) (fun _ s' => ∃ σ' H', Inv X pins σ' H' s' ∧ Q σ' H') X.xe s
abbrev TSet := V → V → V → Hp → (Hp → Prop) → Prop
def PSet (X : Cx) (t : TSet) : Prop :=
  ∀ (pins : List (Addr × Obj)) (s : Shared) (σ : St) (H : Hp) (o i v : V) (ov iv u : Value) (Q : Hp → Prop), Inv X pins σ H s → RelV o ov → RelV i iv → RelV v u → t o i v H Q →
    wpAny (model X.prog X.w) X.A (setItem ov iv u) (fun _ s' => ∃ H', Inv X pins σ H' s' ∧ Q H') X.xe s
abbrev TIp := V → V → Hp → VK → Prop
def PIp (X : Cx) (op : Operator) (t : TIp) : Prop :=
  ∀ (pins : List (Addr × Obj)) (s : Shared) (σ : St) (H : Hp) (x y : V) (v u : Value) (Q : VK), Inv X pins σ H s → RelV x v → RelV y u → t x y H Q →
    wpAny (model X.prog X.w) X.A (inplaceOp op v u) (EP X pins σ Q) X.xe s
section
variable {X : Cx} {pos : Pos}
def gName (i : Nat) : TG := fun v σ H Q => Q (σ.set i (some v)) H
theorem pg_name {i : Nat} {x : Str} (hN : X.N.Nodup) (hi : X.N[i]? = some x) (hx : Loc X.env.scope x) (hf : X.fn x = true ∨ X.env.scope.names.lookup x = some .local := by first | exact .inl rfl | exact .inr rfl | assumption) : PG X (.Name x pos) (gName i) := by
  intro pins s σ H v u Q I r h
  exact wpAny_assign_Name (store_ok I hN hi hx r (fun s' I' => ⟨_, H, I', h⟩) hf)
def gNil : TGs := fun vs σ H Q => vs = [] ∧ Q σ H
def gCons (t : TG) (u : TGs) : TGs := fun vs σ H Q => ∃ v r, vs = v :: r ∧ t v σ H fun σ' H' => u r σ' H' Q
theorem pgs_nil : PGs X [] gNil := by
  intro pins s σ H vs us Q I r h
  obtain ⟨e, h⟩ := h
  subst e
  cases r
  exact assignInOrder_nil ⟨σ, H, I, h⟩
theorem pgs_cons {e : Expr} {es : List Expr} {t : TG} {u : TGs} (h1 : PG X e t) (h2 : PGs X es u)
    (hs : (assignEach (e :: es) X.env).map (·.2) = assign e X.env :: (assignEach es X.env).map (·.2) := by rfl) : PGs X (e :: es) (gCons t u) := by
  intro pins s σ H vs us Q I r h
  obtain ⟨v, vr, e1, h⟩ := h
  subst e1
  cases r with
  | cons r rr =>
    rw [hs]
    refine assignInOrder_cons (thn (h1 pins s σ H _ _ _ I r h) fun _ s1 ⟨σ1, H1, I1, q1⟩ => ?_)
    exact h2 pins s1 σ1 H1 _ _ Q I1 rr q1
def gTup (K : PySem.W.Frag) (n : Nat) (t : TGs) : TG := fun v σ H Q => ∃ a xs, v = .ref a ∧ SqT K H a xs ∧ xs.length = n ∧ t xs σ H Q
theorem pg_tup {es : List Expr} {k : Nat} {t : TGs} {n : Nat} (hc : X.calm = true) (h : PGs X es t)
    (hn : (assignEach es X.env).length = n := by rfl) (hst : (assignEach es X.env).findIdx? (·.1) = none := by rfl) : PG X (.Tuple es k pos) (gTup X.K n t) := by
  intro pins s σ H v u Q I r hw
  obtain ⟨a, xs, e1, hq, hl, hw⟩ := hw
  subst e1
  cases r
  obtain ⟨its, rv, ht, hz⟩ := I.tuple hq
  refine assign_Tuple_tuple (I.ok.hd hc) ht (by simp [hn, ← hl, rv.length]) hst fun h' hx => ?_
  have I1 : Inv X pins σ H { s with heap := h' } := I.kept (t' := s.toks) fun b o e => hx b o (Nat.ne_of_lt (Heap.lt_size e)) e
  exact h pins _ σ H xs _ Q I1 (by simpa using rv) hw
def gSub (to ti : TE) (t : TSet) : TG := fun v σ H Q => to σ H fun o H1 => ti σ H1 fun i H2 => t o i v H2 fun H3 => Q σ H3
theorem pg_sub {o i : Expr} {to ti : TE} {t : TSet} (ho : PE X o to) (hi : PE X i ti) (hs : PSet X t)
    (ha : ∀ v, assign (.Subscript o i pos) X.env v = (do
      let ov ← holding [v] (eval o X.env)
      let iv ← holding [v, ov] (eval i X.env)
      standAt pos
      holding [v, ov, iv] (setItem ov iv v)
      release [v, ov, iv] []) := by intro _; rfl) : PG X (.Subscript o i pos) (gSub to ti t) := by
  intro pins s σ H v u Q I r h
  rw [ha]
  refine wpAny_bind (wpAny_holding (thn (ho pins s σ H _ I h) fun ov s1 ⟨x, H1, I1, r1, q1⟩ => ?_))
  refine wpAny_bind (wpAny_holding (thn (hi pins s1 σ H1 _ I1 q1) fun iv s2 ⟨y, H2, I2, r2, q2⟩ => ?_))
  refine wpAny_bind (wpAny_standAt (wpAny_bind (wpAny_holding (thn (hs pins s2 σ H2 x y v ov iv u _ I2 r1 r2 r q2) fun _ s3 ⟨H3, I3, q3⟩ => ?_))))
  exact wpAny_release ⟨σ, H3, I3, q3⟩
def tAsg (te : TE) (g : TG) : TS := fun D σ H => te σ H fun x H1 => g x σ H1 D.nx
theorem ps_asg {tg e : Expr} {te : TE} {g : TG} (he : PE X e te) (hg : PG X tg g) (hs : swapsWithSole [tg] e pos.line X.env = pure false := by rfl) (hw : swappedStores [tg] e X.env = pure none := by rfl)
    (h1 : (assignEach [tg] X.env).map (·.2) = [assign tg X.env] := by rfl) : PS X (.Assign [tg] e pos) (tAsg te g) := by
  intro pins s σ H D I h
  refine wpAny_Assign_stores (thn (he pins s σ H _ I h) fun v s1 ⟨x, H1, I1, r1, q1⟩ => ?_) hs hw
  rw [h1]
  exact thn (hg pins s1 σ H1 x v _ I1 r1 q1) fun _ s2 q => q
theorem ps_set {i : Nat} {x : Str} {e : Expr} {te : TE} {pos' : Pos} (hN : X.N.Nodup) (hi : X.N[i]? = some x) (hx : Loc X.env.scope x) (he : PE X e te) (hs : swapsWith e (some (.Name x pos')) pos.line X.env = pure false := by rfl) (hf : X.fn x = true ∨ X.env.scope.names.lookup x = some .local := by first | exact .inl rfl | exact .inr rfl | assumption) :
    PS X (.Assign [.Name x pos'] e pos) (tAsg te (gName i)) := by
  intro pins s σ H D I h
  refine wpAny_Assign_Name (thn (he pins s σ H _ I h) fun v s1 ⟨y, H1, I1, r1, q1⟩ => ?_) hs
  exact store_ok I1 hN hi hx r1 (fun s2 I2 => ⟨_, H1, I2, q1⟩) hf
def tAug (i : Nat) (te : TE) (ti : TIp) : TS := fun D σ H => ∃ x, σ[i]? = some (some x) ∧ te σ H fun y H1 => ti x y H1 fun z H2 => D.nx (σ.set i (some z)) H2
theorem ps_aug {i : Nat} {x : Str} {e : Expr} {te : TE} {op : Operator} {ti : TIp} {pos' : Pos} (hN : X.N.Nodup) (hi : X.N[i]? = some x) (hx : Loc X.env.scope x) (he : PE X e te) (ho : PIp X op ti) (hf : X.fn x = true ∨ X.env.scope.names.lookup x = some .local := by first | exact .inl rfl | exact .inr rfl | assumption) :
    PS X (.AugAssign (.Name x pos') op e pos) (tAug i te ti) := by
  intro pins s σ H D I h
  obtain ⟨v, e1, h⟩ := h
  obtain ⟨m, hn, hl⟩ := I.loc
  have vis : Vis X.env.scope x := by rcases hx with k | k; exact .inl k; exact .inr (.inl k)
  obtain ⟨u, r, l⟩ := hl i x v hi e1 vis
  refine wpAny_AugAssign_Name ?_
  have go : wpAny (model X.prog X.w) X.A (eval e X.env) (fun w s₂ => wpAny (model X.prog X.w) X.A (inplaceOp op u w) (fun r s₃ => wpAny (model X.prog X.w) X.A (storeName X.env x r) (fun _ => SP X pins D .next) X.xe s₃) X.xe s₂) X.xe s := by
    refine thn (he pins s σ H _ I h) fun w s1 ⟨y, H1, I1, r1, q1⟩ => ?_
    refine thn (ho pins s1 σ H1 v y u w _ I1 r r1 q1) fun z s2 ⟨zv, H2, I2, r2, q2⟩ => ?_
    exact store_ok I2 hN hi hx r2 (fun s3 I3 => ⟨_, H2, I3, q2⟩) hf
  rcases l with ⟨hk, hm⟩ | ⟨hk, c, hc, hcell⟩
  · exact wpAny_loadName_local I.ok.kind hk hn hm go
  · rcases hk with hk | hk
    · exact wpAny_loadName_cell I.ok.kind hk hc hcell go
    · rcases hx with k | k
      · have : X.env.scope.names.lookup x = some .free := hk
        rw [k] at this; cases this
      · have : X.env.scope.names.lookup x = some .free := hk
        rw [k] at this; cases this
def tAugS (to ti te : TE) (tget : V → V → Hp → VK → Prop) (tip : TIp) (tset : TSet) : TS := fun D σ H => to σ H fun o H1 => ti σ H1 fun i H2 => tget o i H2 fun x H3 => te σ H3 fun y H4 => tip x y H4 fun z H5 => tset o i z H5 fun H6 => D.nx σ H6
def PGet (X : Cx) (t : V → V → Hp → VK → Prop) : Prop :=
  ∀ (pins : List (Addr × Obj)) (s : Shared) (σ : St) (H : Hp) (o i : V) (ov iv : Value) (Q : VK), Inv X pins σ H s → RelV o ov → RelV i iv → t o i H Q →
    wpAny (model X.prog X.w) X.A (getItem ov iv) (EP X pins σ Q) X.xe s
theorem ps_augS {o i e : Expr} {to ti te : TE} {tget : V → V → Hp → VK → Prop} {tip : TIp} {tset : TSet} {op : Operator} {tpos : Pos} (ho : PE X o to) (hi : PE X i ti) (hg : PGet X tget) (he : PE X e te) (hp : PIp X op tip) (hs : PSet X tset)
    (ha : ∀ ov iv new, augStore i ov iv new = (do holding [new, ov, iv] (setItem ov iv new); release [new, ov, iv] []; pure .next) := by intros; rfl) : PS X (.AugAssign (.Subscript o i tpos) op e pos) (tAugS to ti te tget tip tset) := by
  intro pins s σ H D I h
  refine wpAny_AugAssign_SubscriptAny (thn (ho pins s σ H _ I h) fun ov s1 ⟨x1, H1, I1, r1, q1⟩ => ?_) ha
  refine thn (hi pins s1 σ H1 _ I1 q1) fun iv s2 ⟨x2, H2, I2, r2, q2⟩ => ?_
  refine thn (hg pins s2 σ H2 x1 x2 ov iv _ I2 r1 r2 q2) fun old s3 ⟨x3, H3, I3, r3, q3⟩ => ?_
  refine thn (he pins s3 σ H3 _ I3 q3) fun v s4 ⟨x4, H4, I4, r4, q4⟩ => ?_
  refine thn (hp pins s4 σ H4 x3 x4 old v _ I4 r3 r4 q4) fun new s5 ⟨x5, H5, I5, r5, q5⟩ => ?_
  exact thn (hs pins s5 σ H5 x1 x2 x5 ov iv new _ I5 r1 r2 r5 q5) fun _ s6 ⟨H6, I6, q6⟩ => ⟨σ, H6, I6, q6⟩
def ipI (f : Int → Int → Int) : TIp := fun x y H Q => ∃ i j, x = .int i ∧ y = .int j ∧ Q (.int (f i j)) H
theorem ip_add : PIp X .Add (ipI fun i j => i + j) := by
  intro pins s σ H x y v u Q I r1 r2 h
  obtain ⟨i, j, e1, e2, q⟩ := h
  subst e1; subst e2
  obtain ⟨t, rfl⟩ := r1
  obtain ⟨t', rfl⟩ := r2
  exact iadd_int ⟨.int _, H, I.tok _, ⟨_, rfl⟩, q⟩
end
section
variable {X : Cx} {pos : Pos}
def tWhile (c : TT) (tb : TS) : TS := fun D σ H => ∃ W : Nat → St → Hp → Prop, (∃ m, W m σ H) ∧ ∀ m σ H, W m σ H →
  c σ H fun b H1 => if b = true then ∃ N : St → Hp → Prop, (∀ σ' H', N σ' H' → ∃ m', m' < m ∧ W m' σ' H') ∧ tb { D with nx := N, ct := N, bk := D.nx } σ H1 else D.nx σ H1
theorem ps_while {c : Expr} {body : List Stmt} {tc : TT} {tb : TS} (hp : PassesOwn (model X.prog X.w) X.A X.env X.xe) (hc : PT X c tc) (hb : PSs X body tb) : PS X (.While c body [] pos) (tWhile tc tb) := by
  intro pins s σ H D I h
  obtain ⟨W, ⟨m0, w0⟩, turn⟩ := h
  refine wpAny_While (codeAny_whileLoop (fun n s' => ∃ σ' H', Inv X pins σ' H' s' ∧ W n σ' H') ?_ m0 ⟨σ, H, I, w0⟩)
  rintro n s1 ⟨σ1, H1, I1, w1⟩
  refine wpAny_passesOwn hp (thn (hc pins s1 σ1 H1 _ I1 (turn n σ1 H1 w1)) fun b s2 ⟨H2, I2, q2⟩ => ?_)
  cases b with
  | true =>
    obtain ⟨N, hN, q2⟩ := q2
    rw [if_pos rfl]
    refine wpAny_passesOwn hp (thn (hb pins s2 σ1 H2 _ I2 q2) fun f s3 q3 => ?_)
    cases f with
    | next =>
      obtain ⟨σ3, H3, I3, n3⟩ := q3
      obtain ⟨m', hm, w3⟩ := hN σ3 H3 n3
      exact ⟨m', hm, σ3, H3, I3, w3⟩
    | cont =>
      obtain ⟨σ3, H3, I3, n3⟩ := q3
      obtain ⟨m', hm, w3⟩ := hN σ3 H3 n3
      exact ⟨m', hm, σ3, H3, I3, w3⟩
    | brk => exact q3
    | ret v => exact q3
  | false =>
    rw [if_neg Bool.false_ne_true]
    exact wpAny_execs_nil ⟨σ1, H2, I2, q2⟩
end
structure It where
  go : Nat → Hp → Prop
  yld : Nat → Hp → V → Hp → Prop
  stop : Nat → Hp → Prop
def FpOk (X : Cx) (pins : List (Addr × Obj)) (H : Hp) (b : Addr) : Prop :=
  H b = none ∧ b ≠ X.env.locals ∧ b ∉ X.fs ∧ (b ∈ X.ex ∨ X.s_0.heap.objs.size ≤ b) ∧ (∀ x c, X.env.cells.lookup x = some c → c ≠ b) ∧ ∀ p ∈ X.pn ++ pins, p.1 ≠ b
theorem Inv.fpOk {X : Cx} {pins : List (Addr × Obj)} {σ : St} {H H' : Hp} {s : Shared} {b : Addr} (I : Inv X pins σ H s) (hb : s.heap.objs.size ≤ b) (hn : H' b = none) : FpOk X pins H' b := by
  refine ⟨hn, Nat.ne_of_gt (Nat.lt_of_lt_of_le I.lt hb), I.nofs hb, .inr (Nat.le_trans I.sz hb), fun x c e z => ?_, fun p hp z => ?_⟩
  · obtain ⟨v, q⟩ := I.cell x c e
    exact absurd (Nat.lt_of_lt_of_le q.lt (by rw [z]; exact hb)) (Nat.lt_irrefl _)
  · exact absurd (Nat.lt_of_lt_of_le (Heap.lt_size (I.pin p hp).1) (by rw [z]; exact hb)) (Nat.lt_irrefl _)
structure Turn (P : Program) (w : World) (K : PySem.W.Frag) (tg : Expr) (J : It) (fp : List Addr) (it : Addr) (tn : Nat → Heap → Prop) : Prop where
  mem : it ∈ fp
  obj : ∀ i h, tn i h → ∀ b ∈ fp, ∃ o, h.get? b = some o ∧ ∀ v, o.data ≠ .cell v
  keep : ∀ i h h', tn i h → (∀ b ∈ fp, ∀ o, h.get? b = some o → h'.get? b = some o) → tn i h'
  item : ∀ (X : Cx), X.prog = P → X.w = w → X.K = K → X.calm = true → ∀ (i : Nat) (pins : List (Addr × Obj)) (s : Shared) (σ : St) (H : Hp) (E : Value → Shared → Prop), Inv X pins σ H s → (∀ b ∈ fp, FpOk X pins H b) → tn i s.heap → J.go i H →
    wpAny (model P w) X.A (pyNext (.ref it)) (fun r s1 => ∃ u, r = some u ∧
      wpAny (model P w) X.A (letOwnedTupleGo tg (.ref it) u) (fun _ s2 => ∃ x H', Inv X pins σ H' s2 ∧ RelV x u ∧ J.yld i H x H' ∧ tn (i + 1) s2.heap ∧ ∀ b ∈ fp, H' b = none) E s1) E s
  done : ∀ (X : Cx), X.prog = P → X.w = w → X.K = K → X.calm = true → ∀ (i : Nat) (pins : List (Addr × Obj)) (s : Shared) (σ : St) (H : Hp) (E : Value → Shared → Prop), Inv X pins σ H s → (∀ b ∈ fp, FpOk X pins H b) → tn i s.heap → J.stop i H →
    wpAny (model P w) X.A (pyNext (.ref it)) (fun r s1 => r = none ∧ Inv X pins σ H s1) E s
  self : ∀ (A : Around) (i : Nat) (s : Shared) (Q : Value → Shared → Prop) (E : Value → Shared → Prop), tn i s.heap → Q (.ref it) s → wpAny (model P w) A (pyIter (.ref it)) Q E s
abbrev TI := St → Hp → (It → Hp → Prop) → Prop
def PIE (X : Cx) (pins : List (Addr × Obj)) (σ : St) (tg : Expr) (R : It → Hp → Prop) (itv : Value) (s2 : Shared) : Prop :=
  ∃ (it : Addr) (fp : List Addr) (tn : Nat → Heap → Prop) (J : It) (H' : Hp), itv = .ref it ∧ Inv X pins σ H' s2 ∧ Turn X.prog X.w X.K tg J fp it tn ∧ tn 0 s2.heap ∧ (∀ b ∈ fp, FpOk X pins H' b) ∧ R J H'
def PI (X : Cx) (tg iter : Expr) (wi : TI) : Prop :=
  ∀ (pins : List (Addr × Obj)) (s : Shared) (σ : St) (H : Hp) (R : It → Hp → Prop), Inv X pins σ H s → wi σ H R →
    wpAny (model X.prog X.w) X.A (eval iter X.env) (fun v s1 => wpAny (model X.prog X.w) X.A (pyIter v) (PIE X pins σ tg R) X.xe s1) X.xe s
theorem go_of {M : Model} {A : Around} {E : Value → Shared → Prop} {s : Shared} {tg : Expr} {it : Addr} {u : Value} {o : Obj} {n : String} {vs : Array Value} {Q : Unit → Shared → Prop} (ho : s.heap.get? it = some o) (hc : o.cls = .type n) (hd : o.data = .fields vs)
    (hn : ["enumerate", "zip", "dict_itemiterator", "dict_reverseitemiterator", "odict_iterator", "itertools.zip_longest", "itertools.pairwise"].contains n = false) (hQ : Q () s) : wpAny M A (letOwnedTupleGo tg (.ref it) u) Q E s := by
  unfold letOwnedTupleGo
  cases tg <;> first
    | exact wpAny_pure hQ
    | (cases u <;> first
        | exact wpAny_pure hQ
        | (refine wpAny_bind (wpAny_load ho ?_)
           rw [hc, hd]
           show wpAny M A (if (["enumerate", "zip", "dict_itemiterator", "dict_reverseitemiterator", "odict_iterator", "itertools.zip_longest", "itertools.pairwise"].contains n && vs[0]? == some (rawInt _)) = true then _ else _) Q E s
           rw [if_neg (by intro h; rw [hn, Bool.false_and] at h; cases h)]
           exact wpAny_pure hQ))
def Itl (K : PySem.W.Frag) (a : Addr) : It :=
  ⟨fun i H => ∃ xs x, SqL K H a xs ∧ xs[i]? = some x, fun i H x H' => H' = H ∧ ∀ xs, SqL K H a xs → xs[i]? = some x, fun i H => ∃ xs, SqL K H a xs ∧ xs.length ≤ i⟩
def Itr (lo : Int) (n : Nat) : It := ⟨fun i _ => i < n, fun i H x H' => H' = H ∧ x = .int (lo + i), fun i _ => n ≤ i⟩
theorem turn_list {P : Program} {w : World} {K : PySem.W.Frag} {tg : Expr} (a it : Addr) : Turn P w K tg (Itl K a) [it] it (fun i h => h.IsListIter it a i) where
  mem := by simp
  obj := fun i h st b hb => by
    have e : b = it := by simpa using hb
    subst e
    obtain ⟨o, e, c, d⟩ := st
    exact ⟨o, e, fun v z => by rw [d] at z; cases z⟩
  keep := fun i h h' st k => st.at fun o e => k it (by simp) o e
  item := by
    intro X hP hw hK hc i pins s σ H E I hf st hg
    subst hP hw hK
    obtain ⟨xs, x, hq, hx⟩ := hg
    obtain ⟨its, rv, p, hz⟩ := I.list hq
    obtain ⟨u, hu, ru⟩ := rv.get hx
    obtain ⟨f0, f1, f2, f3, f4, f5⟩ := hf it (by simp)
    refine wpAny_pyNext_list_item st p.isList (x := u) (by simpa using hu) fun h' st' sb => ?_
    have I1 : Inv X pins σ H { s with heap := h' } := I.turned (t' := s.toks) (fun b o hb e => (sb.2 b hb).trans e) f0 f1 f3 f4 f5
    obtain ⟨o, e, c, d⟩ := id st'
    exact ⟨u, rfl, go_of (s := { s with heap := h' }) e c d (by decide) ⟨x, H, I1, ru, ⟨rfl, fun ys hy => by rw [I.list_inj hy hq]; exact hx⟩, st', fun b hb => (hf b hb).1⟩⟩
  done := by
    intro X hP hw hK hc i pins s σ H E I hf st hg
    subst hP hw hK
    obtain ⟨xs, hq, hx⟩ := hg
    obtain ⟨its, rv, p, hz⟩ := I.list hq
    obtain ⟨f0, f1, f2, f3, f4, f5⟩ := hf it (by simp)
    have hl := rv.length
    exact wpAny_pyNext_list_end (I.ok.hd hc) st p.isList (by simp; omega) fun h' eb => ⟨rfl, I.turned (t' := s.toks) (fun b o hb e => eb b o hb e) f0 f1 f3 f4 f5⟩
  self := fun _ _ _ _ _ st h => wpAny_pyIter_listiter st h
theorem turn_range {P : Program} {w : World} {K : PySem.W.Frag} {tg : Expr} (it : Addr) (lo : Int) (n : Nat) : Turn P w K tg (Itr lo n) [it] it (fun i h => IsRangeIter h it (lo + (i : Nat) * 1) ((n : Int) - (i : Nat)) 1) where
  mem := by simp
  obj := fun i h st b hb => by
    have e : b = it := by simpa using hb
    subst e
    exact ⟨_, st, fun v z => by
      have z' : Data.fields _ = Data.cell v := z
      cases z'⟩
  keep := fun i h h' st k => k it (by simp) _ st
  item := by
    intro X hP hw hK hc i pins s σ H E I hf st hg
    subst hP hw hK
    obtain ⟨f0, f1, f2, f3, f4, f5⟩ := hf it (by simp)
    have W := Walks.range (prog := X.prog) (w := X.w) (I.ok.hd hc) it lo 1 n
    refine W.item i s _ _ hg st fun v h' tk hv st' kk => ?_
    obtain ⟨t, rfl⟩ := hv
    have I1 : Inv X pins σ H { s with heap := h', toks := tk } := I.turned (fun b o hb e => kk b o (by simpa using hb) e) f0 f1 f3 f4 f5
    refine ⟨_, rfl, go_of (s := { s with heap := h', toks := tk }) (n := "range_iterator") st' rfl rfl (by decide) ⟨.int (lo + i), H, I1, ⟨t, ?_⟩, ⟨rfl, rfl⟩, st', fun b hb => (hf b hb).1⟩⟩
    rw [Int.mul_one]
  done := by
    intro X hP hw hK hc i pins s σ H E I hf st hg
    subst hP hw hK
    obtain ⟨f0, f1, f2, f3, f4, f5⟩ := hf it (by simp)
    exact wpAny_pyNext_range_end (I.ok.hd hc) st (by have : n ≤ i := hg; omega) fun h' eb => ⟨rfl, I.turned (t' := s.toks) (fun b o hb e => eb b o hb e) f0 f1 f3 f4 f5⟩
  self := fun _ _ _ _ _ st h => wpAny_pyIter_rangeiter st h
end L2
namespace L2
open PySem PySem.Spec PyProof.Rows
section
variable {X : Cx} {tg : Expr}
def iList (K : PySem.W.Frag) (tl : TE) : TI := fun σ H R => tl σ H fun x H1 => ∃ a, x = .ref a ∧ (∃ xs, SqL K H1 a xs) ∧ R (Itl K a) H1
theorem pi_list {l : Expr} {tl : TE} (hl : PE X l tl) : PI X tg l (iList X.K tl) := by
  intro pins s σ H R I h
  refine thn (hl pins s σ H _ I h) fun v s1 ⟨x, H1, I1, r1, q1⟩ => ?_
  obtain ⟨a, e, ⟨xs, hq⟩, q⟩ := q1
  subst e
  cases r1
  obtain ⟨its, rv, p, hz⟩ := I1.list hq
  refine wpAny_pyIter_list p.isList ?_
  refine ⟨s1.heap.objs.size, [s1.heap.objs.size], _, _, H1, rfl, I1.kept (t' := s1.toks) fun b o e => Heap.get?_push_of_some _ e, turn_list a _, ⟨_, Heap.get?_push_size _ rfl, rfl, rfl⟩, fun b hb => ?_, q⟩
  have e : b = s1.heap.objs.size := by simpa using hb
  subst e
  exact I1.fpOk (Nat.le_refl _) (I1.hok.fresh (Nat.le_refl _))
theorem range_it {pins : List (Addr × Obj)} {σ : St} {H : Hp} {s : Shared} {R : It → Hp → Prop} {E : Value → Shared → Prop} {lo hi : Int} {t u v : Tok} {tk : Nat} (I : Inv X pins σ H s) (h1 : -(2 ^ 62) ≤ lo) (h2 : lo < 2 ^ 62) (h3 : -(2 ^ 62) ≤ hi) (h4 : hi < 2 ^ 62)
    (q : R (Itr lo (hi - lo).toNat) H) : wpAny (model X.prog X.w) X.A (pyIter (.ref s.heap.objs.size)) (PIE X pins σ tg R) E { s with heap := s.heap.push { cls := .type "range", data := .fields #[.int lo t, .int hi u, .int 1 v] }, toks := tk } := by
  refine wpAny_pyIter_range (IsRange.new ..) (small_one h1 h2 h3 h4) ?_
  have I1 : Inv X pins σ H { s with heap := s.heap.push { cls := .type "range", data := .fields #[.int lo t, .int hi u, .int 1 v] }, toks := tk } := I.kept fun b o e => Heap.get?_push_of_some _ e
  refine ⟨(s.heap.push { cls := .type "range", data := .fields #[.int lo t, .int hi u, .int 1 v] }).objs.size, [(s.heap.push { cls := .type "range", data := .fields #[.int lo t, .int hi u, .int 1 v] }).objs.size], _, _, H, rfl,
    I1.kept (t' := tk) fun b o e => Heap.get?_push_of_some _ e, turn_range _ lo (hi - lo).toNat, ?_, fun b hb => ?_, q⟩
  · have e1 : lo + ((0 : Nat) : Int) * 1 = lo := by simp
    have e2 : (((hi - lo).toNat : Nat) : Int) - ((0 : Nat) : Int) = Builtin.Range.rangeSize lo hi 1 := by rw [rangeSize_one]; split <;> omega
    show IsRangeIter _ _ (lo + ((0 : Nat) : Int) * 1) ((((hi - lo).toNat : Nat) : Int) - ((0 : Nat) : Int)) 1
    rw [e1, e2]
    exact Heap.get?_push_size _ rfl
  · have e : b = (s.heap.push { cls := .type "range", data := .fields #[.int lo t, .int hi u, .int 1 v] }).objs.size := by simpa using hb
    subst e
    exact I1.fpOk (Nat.le_refl _) (I1.hok.fresh (Nat.le_refl _))
def iRng1 (ta : TA) : TI := fun σ H R => ta σ H fun vs H1 => ∃ j : Int, vs = [.int j] ∧ -(2 ^ 62) ≤ j ∧ j < 2 ^ 62 ∧ R (Itr 0 j.toNat) H1
theorem pi_range1 {a : Expr} {ta : TA} {p pos : Pos} (hg : Gl X "range") (hm : X.mg "range" = none) (ha : PA X [a] ta) (hs : starEach [a] X.env = [(false, eval a X.env)] := by rfl) : PI X tg (.Call (.Name "range" p) [a] [] pos) (iRng1 ta) := by
  intro pins s σ H R I h
  refine Call_ (ld_blt I hg hm boot_range (PyProof.Rows.callWith_type1 (thn (ha pos pins s σ H _ I h) fun us s1 ⟨vs, H1, I1, r1, q1⟩ => ?_) hs rfl))
  obtain ⟨j, e, q1, q2, q⟩ := q1
  subst e
  cases r1 with
  | cons r rr =>
    cases rr
    obtain ⟨t, rfl⟩ := r
    exact call_range_1 (range_it I1 (by omega) (by omega) q1 q2 (by simpa using q))
def tFor (wi : TI) (g : TG) (tb : TS) : TS := fun D σ H => wi σ H fun J H1 => ∃ W : Nat → Nat → St → Hp → Prop, (∃ m, W 0 m σ H1) ∧ ∀ i m σ H, W i m σ H →
  (J.stop i H ∧ D.nx σ H) ∨ (J.go i H ∧ ∃ N : St → Hp → Prop, (∀ σ' H', N σ' H' → ∃ m', m' < m ∧ W (i + 1) m' σ' H') ∧ ∀ x H', J.yld i H x H' → g x σ H' fun σ2 H2 => tb { D with nx := N, ct := N, bk := D.nx } σ2 H2)
def pinsAt (fp : List Addr) (h : Heap) : List (Addr × Obj) := fp.filterMap fun b => (h.get? b).map fun o => (b, o)
theorem mem_pinsAt {fp : List Addr} {h : Heap} {b : Addr} {o : Obj} (hb : b ∈ fp) (e : h.get? b = some o) : (b, o) ∈ pinsAt fp h := List.mem_filterMap.mpr ⟨b, hb, by rw [e]; rfl⟩
theorem of_pinsAt {fp : List Addr} {h : Heap} {p : Addr × Obj} (hp : p ∈ pinsAt fp h) : p.1 ∈ fp ∧ h.get? p.1 = some p.2 := by
  obtain ⟨b, hb, e⟩ := List.mem_filterMap.mp hp
  cases q : h.get? b with
  | none => rw [q] at e; cases e
  | some o =>
    rw [q] at e
    have e' : (b, o) = p := Option.some.inj e
    subst e'
    exact ⟨hb, q⟩
theorem Inv.pinned {pins : List (Addr × Obj)} {σ : St} {H : Hp} {s : Shared} {fp : List Addr} (I : Inv X pins σ H s) (hf : ∀ b ∈ fp, FpOk X pins H b) (ho : ∀ b ∈ fp, ∃ o, s.heap.get? b = some o ∧ ∀ v, o.data ≠ .cell v) : Inv X (pins ++ pinsAt fp s.heap) σ H s :=
  I.pins_of fun p hp => (List.mem_append.mp hp).elim (fun z => I.pin p (List.mem_append_right _ z)) fun z => by
    obtain ⟨hb, e⟩ := of_pinsAt z
    obtain ⟨f0, f1, f2, _⟩ := hf p.1 hb
    obtain ⟨o, e', d⟩ := ho p.1 hb
    rw [e] at e'; cases e'
    exact ⟨e, f0, f1, f2, d⟩
theorem Inv.unpinned {pins pl : List (Addr × Obj)} {σ : St} {H : Hp} {s : Shared} (I : Inv X (pins ++ pl) σ H s) : Inv X pins σ H s := I.pins_of fun p hp => I.pin p (List.mem_append_right _ (List.mem_append_left _ hp))
theorem ps_for {iter : Expr} {body : List Stmt} {wi : TI} {g : TG} {tb : TS} {pos : Pos} (hp : PassesOwn (model X.prog X.w) X.A X.env X.xe) (hc : X.calm = true) (hi : PI X tg iter wi) (hg : PG X tg g) (hb : PSs X body tb)
    (hs : ∀ x, foldedSetIterable iter X.env x = pure x := by intro _; rfl) : PS X (.For tg iter body [] pos) (tFor wi g tb) := by
  intro pins s σ H D I h
  refine wpAny_For (thn (hi pins s σ H _ I h) fun v s1 h1 => thn h1 fun itv s2 h2 => ?_) hs
  obtain ⟨it, fp, tn, J, H2, e, I2, T, st2, f2, W, ⟨m0, w0⟩, turn⟩ := h2
  subst e
  have stat : ∀ {H' : Hp}, (∀ b ∈ fp, H' b = none) → ∀ b ∈ fp, FpOk X pins H' b := fun hn b hb => ⟨hn b hb, (f2 b hb).2⟩
  refine codeAny_forLoop_any (fun n s' => ∃ i σ' H', Inv X pins σ' H' s' ∧ tn i s'.heap ∧ (∀ b ∈ fp, H' b = none) ∧ W i n σ' H') ?_ m0 ⟨0, σ, H2, I2, st2, fun b hb => (f2 b hb).1, w0⟩
  rintro n s3 ⟨i, σ3, H3, I3, st3, fr3, w3⟩
  rcases turn i n σ3 H3 w3 with ⟨stop, qn⟩ | ⟨go, N, hN, step⟩
  · refine wpAny_passesOwn hp (thn (T.done X rfl rfl rfl hc i pins s3 σ3 H3 X.xe I3 (stat fr3) st3 stop) fun r s4 ⟨hr, I4⟩ => ?_)
    subst hr
    exact wpAny_execs_nil ⟨σ3, H3, I4, qn⟩
  · refine wpAny_passesOwn hp (thn (T.item X rfl rfl rfl hc i pins s3 σ3 H3 X.xe I3 (stat fr3) st3 go) fun r s4 ⟨u, hr, h4⟩ => ?_)
    subst hr
    refine wpAny_passesOwn hp (thn h4 fun _ s5 ⟨x, H5, I5, r5, y5, st5, fr5⟩ => ?_)
    have I5' := I5.pinned (stat fr5) (T.obj _ _ st5)
    refine wpAny_passesOwn hp (thn (hg _ s5 σ3 H5 x u _ I5' r5 (step x H5 y5)) fun _ s6 ⟨σ6, H6, I6, q6⟩ => ?_)
    refine wpAny_passesOwn hp (thn (hb _ s6 σ6 H6 _ I6 q6) fun f s7 q7 => ?_)
    have again : ∀ {σ7 : St} {H7 : Hp}, Inv X (pins ++ pinsAt fp s5.heap) σ7 H7 s7 → N σ7 H7 → ∃ m, m < n ∧ ∃ i σ' H', Inv X pins σ' H' s7 ∧ tn i s7.heap ∧ (∀ b ∈ fp, H' b = none) ∧ W i m σ' H' := fun {σ7 H7} I7 n7 => by
      obtain ⟨m', hm, w7⟩ := hN σ7 H7 n7
      refine ⟨m', hm, i + 1, σ7, H7, I7.unpinned, T.keep _ _ _ st5 fun b hb o e => (I7.pin (b, o) (List.mem_append_right _ (List.mem_append_right _ (mem_pinsAt hb e)))).1, fun b hb => ?_, w7⟩
      obtain ⟨o, e, d⟩ := T.obj _ _ st5 b hb
      exact (I7.pin (b, o) (List.mem_append_right _ (List.mem_append_right _ (mem_pinsAt hb e)))).2.1
    cases f with
    | next => obtain ⟨σ7, H7, I7, n7⟩ := q7; exact again I7 n7
    | cont => obtain ⟨σ7, H7, I7, n7⟩ := q7; exact again I7 n7
    | brk => obtain ⟨σ7, H7, I7, q7⟩ := q7; exact ⟨σ7, H7, I7.unpinned, q7⟩
    | ret v => obtain ⟨x7, σ7, H7, I7, r7, q7⟩ := q7; exact ⟨x7, σ7, H7, I7.unpinned, r7, q7⟩
end
theorem for_list {K : PySem.W.Frag} {a : Addr} {xs : List V} {g : TG} {tb : TS} {D : Ends} {σ : St} {H : Hp} (Pv : Nat → St → Hp → Prop) (h0 : Pv 0 σ H) (hl : ∀ i σ H, i ≤ xs.length → Pv i σ H → SqL K H a xs)
    (hs : ∀ i x σ H, xs[i]? = some x → Pv i σ H → g x σ H fun σ2 H2 => tb { D with nx := Pv (i + 1), ct := Pv (i + 1), bk := D.nx } σ2 H2) (hd : ∀ σ H, Pv xs.length σ H → D.nx σ H) :
    ∃ W : Nat → Nat → St → Hp → Prop, (∃ m, W 0 m σ H) ∧ ∀ i m σ H, W i m σ H →
      ((Itl K a).stop i H ∧ D.nx σ H) ∨ ((Itl K a).go i H ∧ ∃ N : St → Hp → Prop, (∀ σ' H', N σ' H' → ∃ m', m' < m ∧ W (i + 1) m' σ' H') ∧ ∀ x H', (Itl K a).yld i H x H' → g x σ H' fun σ2 H2 => tb { D with nx := N, ct := N, bk := D.nx } σ2 H2) := by
  refine ⟨fun i m σ H => m = xs.length - i ∧ i ≤ xs.length ∧ Pv i σ H, ⟨xs.length, by simp, Nat.zero_le _, h0⟩, ?_⟩
  rintro i m σ H ⟨rfl, hi, p⟩
  have q := hl i σ H hi p
  by_cases hlt : i < xs.length
  · refine .inr ⟨⟨xs, xs[i], q, by simp [hlt]⟩, Pv (i + 1), fun σ' H' p' => ⟨xs.length - (i + 1), by omega, rfl, hlt, p'⟩, fun x H' y => ?_⟩
    obtain ⟨e, y⟩ := y
    subst e
    exact hs i x σ _ (y xs q) p
  · have e : i = xs.length := by omega
    subst e
    exact .inl ⟨⟨xs, q, Nat.le_refl _⟩, hd σ H p⟩
theorem for_range {lo : Int} {n : Nat} {g : TG} {tb : TS} {D : Ends} {σ : St} {H : Hp} (Pv : Nat → St → Hp → Prop) (h0 : Pv 0 σ H)
    (hs : ∀ i σ H, i < n → Pv i σ H → g (.int (lo + i)) σ H fun σ2 H2 => tb { D with nx := Pv (i + 1), ct := Pv (i + 1), bk := D.nx } σ2 H2) (hd : ∀ σ H, Pv n σ H → D.nx σ H) :
    ∃ W : Nat → Nat → St → Hp → Prop, (∃ m, W 0 m σ H) ∧ ∀ i m σ H, W i m σ H →
      ((Itr lo n).stop i H ∧ D.nx σ H) ∨ ((Itr lo n).go i H ∧ ∃ N : St → Hp → Prop, (∀ σ' H', N σ' H' → ∃ m', m' < m ∧ W (i + 1) m' σ' H') ∧ ∀ x H', (Itr lo n).yld i H x H' → g x σ H' fun σ2 H2 => tb { D with nx := N, ct := N, bk := D.nx } σ2 H2) := by
  refine ⟨fun i m σ H => m = n - i ∧ i ≤ n ∧ Pv i σ H, ⟨n, by simp, Nat.zero_le _, h0⟩, ?_⟩
  rintro i m σ H ⟨rfl, hi, p⟩
  by_cases hlt : i < n
  · refine .inr ⟨hlt, Pv (i + 1), fun σ' H' p' => ⟨n - (i + 1), by omega, rfl, hlt, p'⟩, fun x H' y => ?_⟩
    obtain ⟨e, y⟩ := y
    subst e y
    exact hs i σ _ hlt p
  · have e : i = n := by omega
    subst e
    exact .inl ⟨Nat.le_refl _, hd σ H p⟩
theorem while_by {c : TT} {tb : TS} {D : Ends} {σ : St} {H : Hp} (Pv : St → Hp → Prop) (μ : St → Hp → Nat) (h0 : Pv σ H)
    (hs : ∀ σ H, Pv σ H → c σ H fun b H1 => if b = true then tb { D with nx := fun σ' H' => Pv σ' H' ∧ μ σ' H' < μ σ H, ct := fun σ' H' => Pv σ' H' ∧ μ σ' H' < μ σ H, bk := D.nx } σ H1 else D.nx σ H1)
    (mono : ∀ σ H Q Q', (∀ b H1, Q b H1 → Q' b H1) → c σ H Q → c σ H Q') : tWhile c tb D σ H := by
  refine ⟨fun m σ H => m = μ σ H ∧ Pv σ H, ⟨_, rfl, h0⟩, ?_⟩
  rintro m σ H ⟨rfl, p⟩
  refine mono σ H _ _ (fun b H1 q => ?_) (hs σ H p)
  cases b with
  | true => exact ⟨_, fun σ' H' ⟨p', l⟩ => ⟨_, l, rfl, p'⟩, q⟩
  | false => exact q
end L2
namespace L2
open PySem PySem.Spec PyProof.Rows
abbrev R2 := V → V → Hp → VK → Prop
def OpR (X : Cx) (f : Value → Value → Sem Value) (r : R2) : Prop :=
  ∀ (pins : List (Addr × Obj)) (s : Shared) (σ : St) (H : Hp) (x y : V) (v u : Value) (Q : VK), Inv X pins σ H s → RelV x v → RelV y u → r x y H Q →
    wpAny (model X.prog X.w) X.A (f v u) (EP X pins σ Q) X.xe s
def UnR (X : Cx) (f : Value → Sem Value) (r : V → Hp → VK → Prop) : Prop :=
  ∀ (pins : List (Addr × Obj)) (s : Shared) (σ : St) (H : Hp) (x : V) (v : Value) (Q : VK), Inv X pins σ H s → RelV x v → r x H Q →
    wpAny (model X.prog X.w) X.A (f v) (EP X pins σ Q) X.xe s
def CallR (X : Cx) (f : Value) (r : List V → Hp → VK → Prop) : Prop :=
  ∀ (pins : List (Addr × Obj)) (s : Shared) (σ : St) (H : Hp) (xs : List V) (us : List Value) (Q : VK), Inv X pins σ H s → Vals xs us → r xs H Q →
    wpAny (model X.prog X.w) X.A (call f us) (EP X pins σ Q) X.xe s
def TruR (X : Cx) (r : V → Hp → (Bool → Hp → Prop) → Prop) : Prop :=
  ∀ (pins : List (Addr × Obj)) (s : Shared) (σ : St) (H : Hp) (x : V) (v : Value) (Q : Bool → Hp → Prop), Inv X pins σ H s → RelV x v → r x H Q →
    wpAny (model X.prog X.w) X.A (truthy v) (TP X pins σ Q) X.xe s
def tOp (r : R2) (ta tb : TE) : TE := fun σ H Q => ta σ H fun x H1 => tb σ H1 fun y H2 => r x y H2 Q
def tUn (r : V → Hp → VK → Prop) (ta : TE) : TE := fun σ H Q => ta σ H fun x H1 => r x H1 Q
def rI (C : Int → Int → Prop) (g : Int → Int → V) : R2 := fun x y H Q => ∃ i j, x = .int i ∧ y = .int j ∧ C i j ∧ Q (g i j) H
def rI0 (g : Int → Int → V) : R2 := fun x y H Q => ∃ i j, x = .int i ∧ y = .int j ∧ Q (g i j) H
def rU (g : Int → V) : V → Hp → VK → Prop := fun x H Q => ∃ i, x = .int i ∧ Q (g i) H
section
variable {X : Cx} {a b c : Expr} {ta tb tc : TE} {pos : Pos}
theorem binT (ha : PE X a ta) (hb : PE X b tb) {pins : List (Addr × Obj)} {s : Shared} {σ : St} {H : Hp} {R : V → V → Hp → Prop} (I : Inv X pins σ H s)
    (h : ta σ H fun x H1 => tb σ H1 fun y H2 => R x y H2) {Q : Value → Shared → Prop} {f : Value → Value → Sem Value}
    (hf : ∀ v u s2 x y H2, Inv X pins σ H2 s2 → RelV x v → RelV y u → R x y H2 → wpAny (model X.prog X.w) X.A (f v u) Q X.xe s2) :
    wpAny (model X.prog X.w) X.A (eval a X.env) (fun v s₁ => wpAny (model X.prog X.w) X.A (eval b X.env) (fun u s₂ => wpAny (model X.prog X.w) X.A (f v u) Q X.xe s₂) X.xe s₁) X.xe s := by
  refine thn (ha pins s σ H _ I h) fun v s1 ⟨x, H1, I1, r1, q1⟩ => ?_
  refine thn (hb pins s1 σ H1 _ I1 q1) fun u s2 ⟨y, H2, I2, r2, q2⟩ => ?_
  exact hf v u s2 x y H2 I2 r1 r2 q2
theorem pe_op {op : Operator} {r : R2} (ho : OpR X (binaryOp op) r) (ha : PE X a ta) (hb : PE X b tb) : PE X (.BinOp a op b pos) (tOp r ta tb) := by
  intro pins s σ H Q I h
  exact wpAny_BinOp (binT ha hb I h fun v u s2 x y H2 I2 rx ry q => ho pins s2 σ H2 x y v u Q I2 rx ry q)
theorem pe_un {op : UnaryOp} {r : V → Hp → VK → Prop} (ho : UnR X (unaryOp op) r) (ha : PE X a ta) : PE X (.UnaryOp op a pos) (tUn r ta) := by
  intro pins s σ H Q I h
  exact UnaryOp_ (thn (ha pins s σ H _ I h) fun v s1 ⟨x, H1, I1, r1, q1⟩ => ho pins s1 σ H1 x v Q I1 r1 q1)
theorem opI {f : Value → Value → Sem Value} {C : Int → Int → Prop} {g : Int → Int → Int}
    (rule : ∀ (i j : Int) (t u : Tok) (s : Shared) (Q : Value → Shared → Prop) (E : Value → Shared → Prop), C i j → Q (.int (g i j) s.toks) { s with toks := s.toks + 1 } → wpAny (model X.prog X.w) X.A (f (.int i t) (.int j u)) Q E s) :
    OpR X f (rI C fun i j => .int (g i j)) := by
  intro pins s σ H x y v u Q I rx ry h
  obtain ⟨i, j, rfl, rfl, hc, q⟩ := h
  obtain ⟨t, rfl⟩ := rx
  obtain ⟨t', rfl⟩ := ry
  exact rule i j t t' s _ _ hc ⟨.int (g i j), H, I.tok _, ⟨_, rfl⟩, q⟩
theorem opI0 {f : Value → Value → Sem Value} {g : Int → Int → Int}
    (rule : ∀ (i j : Int) (t u : Tok) (s : Shared) (Q : Value → Shared → Prop) (E : Value → Shared → Prop), Q (.int (g i j) s.toks) { s with toks := s.toks + 1 } → wpAny (model X.prog X.w) X.A (f (.int i t) (.int j u)) Q E s) :
    OpR X f (rI0 fun i j => .int (g i j)) := by
  intro pins s σ H x y v u Q I rx ry h
  obtain ⟨i, j, rfl, rfl, q⟩ := h
  obtain ⟨t, rfl⟩ := rx
  obtain ⟨t', rfl⟩ := ry
  exact rule i j t t' s _ _ ⟨.int (g i j), H, I.tok _, ⟨_, rfl⟩, q⟩
theorem opB0 {f : Value → Value → Sem Value} {g : Int → Int → Bool}
    (rule : ∀ (i j : Int) (t u : Tok) (s : Shared) (Q : Value → Shared → Prop) (E : Value → Shared → Prop), Q (.bool (g i j)) s → wpAny (model X.prog X.w) X.A (f (.int i t) (.int j u)) Q E s) :
    OpR X f (rI0 fun i j => .bl (g i j)) := by
  intro pins s σ H x y v u Q I rx ry h
  obtain ⟨i, j, rfl, rfl, q⟩ := h
  obtain ⟨t, rfl⟩ := rx
  obtain ⟨t', rfl⟩ := ry
  exact rule i j t t' s _ _ ⟨.bl (g i j), H, I, rfl, q⟩
def CDiv (i j : Int) : Prop := 0 < j ∧ j < 1073741824
def CMul (i j : Int) : Prop := (-(2 ^ 64) < i ∧ i < 2 ^ 64) ∨ (-(2 ^ 64) < j ∧ j < 2 ^ 64)
theorem CMul.ok {i j : Int} (h : CMul i j) : IntMulOk i j := by
  rcases h with ⟨h1, h2⟩ | ⟨h1, h2⟩
  · exact .of_left (intBits_le_64 h1 h2)
  · exact .of_right (intBits_le_64 h1 h2)
theorem op_add : OpR X (binaryOp .Add) (rI0 fun i j => .int (i + j)) := opI0 fun _ _ _ _ _ _ _ q => add_int q
theorem op_sub : OpR X (binaryOp .Sub) (rI0 fun i j => .int (i - j)) := opI0 fun _ _ _ _ _ _ _ q => sub_int q
theorem op_mul : OpR X (binaryOp .Mult) (rI CMul fun i j => .int (i * j)) := opI fun _ _ _ _ _ _ _ hc q => mul_int q hc.ok
theorem op_fdiv : OpR X (binaryOp .FloorDiv) (rI CDiv fun i j => .int (i / j)) := opI fun i j _ _ _ _ _ hc q => by
  have h1 : (0 : Int) < j := hc.1
  have h2 : j < 1073741824 := hc.2
  exact floordiv_int (by omega) (by rw [Int.fdiv_eq_ediv_of_nonneg i (by omega)]; exact q) (.inl (PyProof.noPylong_small (by omega)))
theorem op_mod : OpR X (binaryOp .Mod) (rI (fun _ j => 0 < j) fun i j => .int (i % j)) := opI fun i j _ _ _ _ _ hc q => by
  have h1 : (0 : Int) < j := hc
  exact mod_int' (by omega) (by rw [Int.fmod_eq_emod_of_nonneg i (by omega)]; exact q)
theorem unI {f : Value → Sem Value} {g : Int → Int}
    (rule : ∀ (i : Int) (t : Tok) (s : Shared) (Q : Value → Shared → Prop) (E : Value → Shared → Prop), Q (.int (g i) s.toks) { s with toks := s.toks + 1 } → wpAny (model X.prog X.w) X.A (f (.int i t)) Q E s) :
    UnR X f (rU fun i => .int (g i)) := by
  intro pins s σ H x v Q I rx h
  obtain ⟨i, rfl, q⟩ := h
  obtain ⟨t, rfl⟩ := rx
  exact rule i t s _ _ ⟨.int (g i), H, I.tok _, ⟨_, rfl⟩, q⟩
theorem un_neg : UnR X (unaryOp .USub) (rU fun i => .int (-i)) := unI fun _ _ _ _ _ q => neg_int q
end
def scal : V → V → Bool
  | .non, .non => true | .non, .int _ => true | .int _, .non => true | .non, .bl _ => true | .bl _, .non => true | .non, .str _ => true | .str _, .non => true
  | .int _, .int _ => true | .bl _, .bl _ => true | .str _, .str _ => true | .byt _, .byt _ => true
  | .int _, .str _ => true | .str _, .int _ => true | .bl _, .str _ => true | .str _, .bl _ => true
  | _, _ => false
def rEq : R2 := fun x y H Q => scal x y = true ∧ Q (.bl (decide (x = y))) H
def rNe : R2 := fun x y H Q => scal x y = true ∧ Q (.bl (!decide (x = y))) H
theorem dec_int {i j : Int} : decide (V.int i = V.int j) = (i == j) := by
  rw [Bool.eq_iff_iff]
  simp
theorem dec_bl {i j : Bool} : decide (V.bl i = V.bl j) = (i == j) := by
  rw [Bool.eq_iff_iff]
  simp
theorem dec_str {i j : Str} : decide (V.str i = V.str j) = (i == j) := by
  rw [Bool.eq_iff_iff]
  simp
theorem dec_byt {i j : Array UInt8} : decide (V.byt i = V.byt j) = (i.toList == j.toList) := by
  rw [Bool.eq_iff_iff]
  cases i
  cases j
  simp
section
variable {X : Cx} {a b c : Expr} {ta tb tc : TE} {pos : Pos}
theorem fin_bl {pins : List (Addr × Obj)} {σ : St} {H : Hp} {s : Shared} {Q : VK} {k k' : Bool} (I : Inv X pins σ H s) (q : Q (.bl k) H) (e : k = k') : EP X pins σ Q (.bool k') s := by
  subst e
  exact ⟨.bl k, H, I, rfl, q⟩
theorem op_eq : OpR X (compareOp .Eq) rEq := by
  intro pins s σ H x y v u Q I rx ry h
  obtain ⟨hs, q⟩ := h
  cases x with
  | non =>
    cases rx
    cases y with
    | non => cases ry; exact PySem.EqNone.eq_none_none (fin_bl I q (by simp))
    | bl j => cases ry; exact PySem.EqNone.eq_none_bool (fin_bl I q (by simp))
    | int j => obtain ⟨t', rfl⟩ := ry; exact PySem.EqNone.eq_none_int (fin_bl I q (by simp))
    | str j => obtain ⟨t', rfl⟩ := ry; exact PySem.EqNone.eq_none_str (fin_bl I q (by simp))
    | _ => exact absurd (show false = true from hs) Bool.false_ne_true
  | bl i =>
    cases rx
    cases y with
    | non => cases ry; exact PySem.EqNone.eq_bool_none (fin_bl I q (by simp))
    | bl j => cases ry; exact eq_bool (fin_bl I q dec_bl)
    | str j => obtain ⟨t', rfl⟩ := ry; exact PySem.EqMixed.eq_bool_str (fin_bl I q (by simp))
    | _ => exact absurd (show false = true from hs) Bool.false_ne_true
  | int i =>
    obtain ⟨t, rfl⟩ := rx
    cases y with
    | non => cases ry; exact PySem.EqNone.eq_int_none (fin_bl I q (by simp))
    | int j => obtain ⟨t', rfl⟩ := ry; exact eq_int (fin_bl I q dec_int)
    | str j => obtain ⟨t', rfl⟩ := ry; exact PySem.EqMixed.eq_int_str (fin_bl I q (by simp))
    | _ => exact absurd (show false = true from hs) Bool.false_ne_true
  | str i =>
    obtain ⟨t, rfl⟩ := rx
    cases y with
    | non => cases ry; exact PySem.EqNone.eq_str_none (fin_bl I q (by simp))
    | bl j => cases ry; exact PySem.EqMixed.eq_str_bool (fin_bl I q (by simp))
    | int j => obtain ⟨t', rfl⟩ := ry; exact PySem.EqMixed.eq_str_int (fin_bl I q (by simp))
    | str j => obtain ⟨t', rfl⟩ := ry; exact eq_str (fin_bl I q dec_str)
    | _ => exact absurd (show false = true from hs) Bool.false_ne_true
  | byt i =>
    obtain ⟨t, rfl⟩ := rx
    cases y with
    | byt j => obtain ⟨t', rfl⟩ := ry; exact PySem.W.eq_bytes (fin_bl I q dec_byt)
    | _ => exact absurd (show false = true from hs) Bool.false_ne_true
  | _ => cases y <;> exact absurd (show false = true from hs) Bool.false_ne_true
theorem op_ne : OpR X (compareOp .NotEq) rNe := by
  intro pins s σ H x y v u Q I rx ry h
  obtain ⟨hs, q⟩ := h
  cases x with
  | non =>
    cases rx
    cases y with
    | non => cases ry; exact PySem.EqNone.ne_none_none (fin_bl I q (by simp))
    | bl j => cases ry; exact PySem.EqNone.ne_none_bool (fin_bl I q (by simp))
    | int j => obtain ⟨t', rfl⟩ := ry; exact PySem.EqNone.ne_none_int (fin_bl I q (by simp))
    | str j => obtain ⟨t', rfl⟩ := ry; exact PySem.EqNone.ne_none_str (fin_bl I q (by simp))
    | _ => exact absurd (show false = true from hs) Bool.false_ne_true
  | bl i =>
    cases rx
    cases y with
    | non => cases ry; exact PySem.EqNone.ne_bool_none (fin_bl I q (by simp))
    | bl j => cases ry; exact ne_bool (fin_bl I q (congrArg not dec_bl))
    | str j => obtain ⟨t', rfl⟩ := ry; exact PySem.EqMixed.ne_bool_str (fin_bl I q (by simp))
    | _ => exact absurd (show false = true from hs) Bool.false_ne_true
  | int i =>
    obtain ⟨t, rfl⟩ := rx
    cases y with
    | non => cases ry; exact PySem.EqNone.ne_int_none (fin_bl I q (by simp))
    | int j => obtain ⟨t', rfl⟩ := ry; exact ne_int (fin_bl I q (congrArg not dec_int))
    | str j => obtain ⟨t', rfl⟩ := ry; exact PySem.EqMixed.ne_int_str (fin_bl I q (by simp))
    | _ => exact absurd (show false = true from hs) Bool.false_ne_true
  | str i =>
    obtain ⟨t, rfl⟩ := rx
    cases y with
    | non => cases ry; exact PySem.EqNone.ne_str_none (fin_bl I q (by simp))
    | bl j => cases ry; exact PySem.EqMixed.ne_str_bool (fin_bl I q (by simp))
    | int j => obtain ⟨t', rfl⟩ := ry; exact PySem.EqMixed.ne_str_int (fin_bl I q (by simp))
    | str j => obtain ⟨t', rfl⟩ := ry; exact ne_str (fin_bl I q (congrArg not dec_str))
    | _ => exact absurd (show false = true from hs) Bool.false_ne_true
  | byt i =>
    obtain ⟨t, rfl⟩ := rx
    cases y with
    | byt j => obtain ⟨t', rfl⟩ := ry; exact PySem.W.ne_bytes (fin_bl I q (congrArg not dec_byt))
    | _ => exact absurd (show false = true from hs) Bool.false_ne_true
  | _ => cases y <;> exact absurd (show false = true from hs) Bool.false_ne_true
theorem op_lt : OpR X (compareOp .Lt) (rI0 fun i j => .bl (decide (i < j))) := opB0 fun _ _ _ _ _ _ _ q => lt_int q
theorem op_le : OpR X (compareOp .LtE) (rI0 fun i j => .bl (decide (i ≤ j))) := opB0 fun _ _ _ _ _ _ _ q => le_int q
theorem op_gt : OpR X (compareOp .Gt) (rI0 fun i j => .bl (decide (j < i))) := opB0 fun _ _ _ _ _ _ _ q => gt_int q
theorem op_ge : OpR X (compareOp .GtE) (rI0 fun i j => .bl (decide (j ≤ i))) := opB0 fun _ _ _ _ _ _ _ q => ge_int q
theorem op_isN : OpR X (compareOp .Is) (fun x y H Q => y = .non ∧ Q (.bl (decide (x = .non))) H) := by
  intro pins s σ H x y v u Q I rx ry h
  obtain ⟨rfl, q⟩ := h
  cases ry
  refine is_none_gen (fin_bl I q ?_)
  cases x <;> first
    | (cases rx; rfl)
    | (obtain ⟨t, rfl⟩ := rx; rfl)
theorem nomark (b : Expr) {op : CmpOp} (h : op ≠ .In := by decide) (h2 : op ≠ .NotIn := by decide) : behindInMarks op b = false := by
  have e1 : (op == CmpOp.In) = false := by cases op <;> first | rfl | exact absurd rfl h
  have e2 : (op == CmpOp.NotIn) = false := by cases op <;> first | rfl | exact absurd rfl h2
  cases b <;> simp [behindInMarks, e1, e2]
theorem pe_cmpR {op : CmpOp} {r : R2} (ho : OpR X (compareOp op) r) (ha : PE X a ta) (hb : PE X b tb) (hm : behindInMarks op b = false) : PE X (.Compare a [op] [b] pos) (tOp r ta tb) := by
  intro pins s σ H Q I h
  exact wpAny_Compare1 (binT ha hb I h fun v u s2 x y H2 I2 rx ry q => ho pins s2 σ H2 x y v u Q I2 rx ry q) hm
def tTest (t : TE) : TT := fun σ H Q => t σ H fun x H' => ∃ k, x = .bl k ∧ Q k H'
theorem pt_cmpR {op : CmpOp} {r : R2} (ho : OpR X (compareOp op) r) (ha : PE X a ta) (hb : PE X b tb) (hm : behindInMarks op b = false) : PT X (.Compare a [op] [b] pos) (tTest (tOp r ta tb)) := by
  intro pins s σ H Q I h
  refine wpAny_isTrue_Compare1 (thn (ha pins s σ H _ I h) fun v s1 ⟨x, H1, I1, r1, q1⟩ => thn (hb pins s1 σ H1 _ I1 q1) fun u s2 ⟨y, H2, I2, r2, q2⟩ =>
    thn (ho pins s2 σ H2 x y v u _ I2 r1 r2 q2) fun c s3 ⟨z, H3, I3, r3, k, e, q3⟩ => ?_) hm
  subst e
  cases r3
  exact wpAny_truthy_bool ⟨H3, I3, q3⟩
def tChain (r r' : R2) (ta tb tc : TE) : TE := fun σ H Q => ta σ H fun x H1 => tb σ H1 fun y H2 => r x y H2 fun z H3 => ∃ k, z = .bl k ∧
  (if k = true then tc σ H3 fun w' H4 => r' y w' H4 Q else Q (.bl false) H3)
theorem pe_chain {op op' : CmpOp} {r r' : R2} (ho : OpR X (compareOp op) r) (ho' : OpR X (compareOp op') r') (ha : PE X a ta) (hb : PE X b tb) (hc : PE X c tc)
    (hm : lastMarks [op, op'] [b, c] = false := by with_unfolding_all rfl) : PE X (.Compare a [op, op'] [b, c] pos) (tChain r r' ta tb tc) := by
  intro pins s σ H Q I h
  refine Compare_chain (thn (ha pins s σ H _ I h) fun v s1 ⟨x, H1, I1, r1, q1⟩ => chain_link (thn (hb pins s1 σ H1 _ I1 q1) fun u s2 ⟨y, H2, I2, r2, q2⟩ =>
    thn (ho pins s2 σ H2 x y v u _ I2 r1 r2 q2) fun d s3 ⟨z, H3, I3, r3, k, e, q3⟩ => ?_)) hm
  subst e
  cases r3
  refine wpAny_truthy_bool ?_
  cases k with
  | false => exact ite_ff ⟨.bl false, H3, I3, rfl, q3⟩
  | true => exact ite_tt (chain_last (thn (hc pins s3 σ H3 _ I3 q3) fun w' s4 ⟨z', H4, I4, r4, q4⟩ => ho' pins s4 σ H4 y z' u w' Q I4 r2 r4 q4))
def TruV (K : PySem.W.Frag) (x : V) (H : Hp) (k : Bool) : Prop :=
  match x with
  | .non => k = false
  | .bl b => k = b
  | .int i => k = (i != 0)
  | .str y => y.length ≤ sizeLine ∧ k = ((y.length : Int) != 0)
  | .byt y => y.size ≤ sizeLine ∧ k = ((y.size : Int) != 0)
  | .ref p => (∃ xs, SqL K H p xs ∧ k = !xs.isEmpty) ∨ (∃ xs, SqT K H p xs ∧ k = !xs.isEmpty) ∨ ∃ kvs, H p = some (.dK kvs) ∧ k = !kvs.isEmpty
  | _ => False
theorem isEmpty_kv {κ : Type} {kvs : List (κ × V)} {vs : List (κ × Value)} (r : KV kvs vs) : (!vs.isEmpty) = !kvs.isEmpty := by
  cases r <;> rfl
theorem isEmpty_of {xs : List V} {its : List Value} (r : Vals xs its) : (!its.toArray.isEmpty) = !xs.isEmpty := by
  cases r <;> simp
theorem line63 : (sizeLine : Nat) < 2 ^ 63 := by rw [sizeLine_eq]; decide
theorem tru_ok : TruR X (fun x H Q => ∃ k, TruV X.K x H k ∧ Q k H) := by
  intro pins s σ H x v Q I rx h
  obtain ⟨k, e, q⟩ := h
  have hl := line63
  have hs : sizeLine = 16777216 := sizeLine_eq
  cases x with
  | non =>
    cases rx
    have e' : k = false := e
    subst e'
    exact truthy_none ⟨H, I, q⟩
  | bl b =>
    cases rx
    have e' : k = b := e
    subst e'
    exact wpAny_truthy_bool ⟨H, I, q⟩
  | int i =>
    obtain ⟨t, rfl⟩ := rx
    have e' : k = (i != 0) := e
    subst e'
    exact PySem.P.truthy_int ⟨H, I, q⟩
  | str y =>
    obtain ⟨t, rfl⟩ := rx
    obtain ⟨hy, e'⟩ : y.length ≤ sizeLine ∧ k = ((y.length : Int) != 0) := e
    subst e'
    exact PySem.P.truthy_str (by omega) ⟨H, I.tok _, q⟩
  | byt y =>
    obtain ⟨t, rfl⟩ := rx
    obtain ⟨hy, e'⟩ : y.size ≤ sizeLine ∧ k = ((y.size : Int) != 0) := e
    subst e'
    exact PySem.W.truthy_bytes (by omega) ⟨H, I.tok _, q⟩
  | ref p =>
    cases rx
    have e' : (∃ xs, SqL X.K H p xs ∧ k = !xs.isEmpty) ∨ (∃ xs, SqT X.K H p xs ∧ k = !xs.isEmpty) ∨ ∃ kvs, H p = some (.dK kvs) ∧ k = !kvs.isEmpty := e
    rcases e' with ⟨xs, hx, e'⟩ | ⟨xs, hx, e'⟩ | ⟨kvs, hx, e'⟩
    · subst e'
      obtain ⟨its, r, pl, hz⟩ := I.list hx
      have hlen := r.length
      exact wpAny_truthy_list pl.isList (by simp only [List.size_toArray]; omega) ⟨H, I.tok _, by rw [isEmpty_of r]; exact q⟩
    · subst e'
      obtain ⟨its, r, pl, hz⟩ := I.tuple hx
      have hlen := r.length
      exact truthy_tuple pl (by simp only [List.size_toArray]; omega) ⟨H, I.tok _, by rw [isEmpty_of r]; exact q⟩
    · subst e'
      obtain ⟨hz, hS, vs, r, m⟩ : kvs.length ≤ sizeLine ∧ (p == sysModules) = false ∧ ∃ vs, KV kvs vs ∧ s.heap.DictOf (mixKind X.prog X.w) p vs := I.hok p _ hx
      have hlen : kvs.length = vs.length := Paired.length r
      exact wpAny_truthy_dict hS m (by omega) ⟨H, I.tok _, by rw [isEmpty_kv r]; exact q⟩
  | _ => exact (show False from e).elim
theorem pt_truth (ha : PE X a ta) (he : ∀ whole, isTrue a X.env whole = (do let v ← whole; standAt a.pos; holding [v] (truthy v))) :
    PT X a (fun σ H Q => ta σ H fun x H' => ∃ k, TruV X.K x H' k ∧ Q k H') := by
  intro pins s σ H Q I h
  exact isTrue_plain (thn (ha pins s σ H _ I h) fun v s1 ⟨x, H1, I1, r1, q1⟩ => tru_ok pins s1 σ H1 x v Q I1 r1 q1) (he _)
theorem vals1 {x : V} {us : List Value} (r : Vals [x] us) : ∃ u, us = [u] ∧ RelV x u := by
  cases r with
  | cons r1 r2 => cases r2; exact ⟨_, rfl, r1⟩
theorem call_abs : CallR X (.builtin "abs") (fun xs H Q => ∃ i, xs = [.int i] ∧ Q (.int (if i < 0 then -i else i)) H) := by
  intro pins s σ H xs us Q I r h
  obtain ⟨i, rfl, q⟩ := h
  obtain ⟨u, rfl, t, rfl⟩ := vals1 r
  exact call_abs_int fun u tk => ⟨.int (if i < 0 then -i else i), H, I.tok _, ⟨_, rfl⟩, q⟩
end
end L2
namespace L2
open PySem PySem.Spec PyProof.Rows
structure ObjM (h : Heap) (x dx C : Addr) (mA : Str → Option Value) : Prop where
  obj : h.get? x = some (PySem.W.instObj C dx)
  ns : h.Ns1 dx mA
  ne : dx ≠ x
theorem lookIn_ns {h : Heap} {dx : Addr} {mA : Str → Option Value} (n : h.Ns1 dx mA) : ∃ od, h.get? dx = some od ∧ ∀ name, PySem.W.lookIn name od = some (mA name) := by
  obtain ⟨o, es, ep, ho, hd, hk, _, hm⟩ := n
  refine ⟨o, ho, fun name => ?_⟩
  have e := hm name
  unfold nsFind findBy at e
  rw [← Array.find?_toList] at e
  unfold PySem.W.lookIn
  rw [hd]
  dsimp only
  split
  · rename_i y q
    rw [q] at e
    exact congrArg some e
  · rename_i q
    rw [q] at e
    have a : es.toList.any (·.refKey) = false := by
      rw [List.any_eq_false]
      intro y hy
      obtain ⟨z, t, hkey⟩ := hk y (Array.mem_toList_iff.mp hy)
      simp [DictEntry.refKey, hkey]
    have a' : ¬ es.toList.any (·.refKey) = true := by rw [a]; exact Bool.false_ne_true
    rw [if_neg a']
    exact congrArg some e
theorem ObjM.look {h : Heap} {x dx C : Addr} {mA : Str → Option Value} (I : ObjM h x dx C mA) : ∃ od, PySem.W.InstAt h x (PySem.W.instObj C dx) C (some od) ∧ ∀ name, PySem.W.lookIn name od = some (mA name) :=
  let ⟨od, ho, hl⟩ := lookIn_ns I.ns
  ⟨od, ⟨I.obj, rfl, rfl, ho⟩, hl⟩
section
variable {prog : Program} {w : World} {A : Around} {E : Value → Shared → Prop} {s : Shared} {K : PySem.W.Frag} {x dx C f : Addr} {mA : Str → Option Value} {name : Str} {v : Value}
theorem get_map {expr : Bool} {Q : Value → Shared → Prop} (X : K.In s.heap) (I : ObjM s.heap x dx C mA) (hg : PySem.W.plainGet K C name = true) (hh : PySem.W.hasDictIn K C = true)
    (ha : PySem.W.findIn K (.ref C) name = some none) (hv : mA name = some v) (hv' : PySem.W.handedIn v = true) (h : Q v { s with toks := s.toks + 1 }) :
    wpAny (model prog w) A (getAttr (.ref x) name expr) Q E s := by
  obtain ⟨od, J, hl⟩ := I.look
  exact PySem.W.get_value X J (PySem.W.plainGet_of hg).1 (PySem.W.findObj_own hh ha rfl (by rw [hl, hv])) hv' h
theorem set_map {ns : List Str} {Q : Unit → Shared → Prop} (X : K.In s.heap) (I : ObjM s.heap x dx C mA)
    (hs : PySem.W.findIn K (.ref C) "__setattr__" = some (some (.builtin "object.__setattr__"))) (hp : PySem.W.plainOver K C = true) (ht : PySem.W.takerIn K C name = some none) (hh : PySem.W.hasDictIn K C = true)
    (hw : PySem.Within mA ns) (hsz : ns.length ≤ sizeLine)
    (h : ∀ h', ObjM h' x dx C (fun y => if y = name then some v else mA y) → Heap.SameBut dx s.heap h' → Q () { s with heap := h', toks := s.toks + 2 }) :
    wpAny (model prog w) A (setAttr (.ref x) name v) Q E s := by
  obtain ⟨od, J, hl⟩ := I.look
  refine PySem.W.set_plain X J hs (PySem.W.osa_open (s := { s with toks := s.toks + 1 }) (r := none) X J hp ht fun b => ?_)
  obtain ⟨cd, hc, hd'⟩ := PySem.W.any_some hh
  have hx : s.heap.get? x = some ⟨.ref C, some dx, .plain, #[]⟩ := I.obj
  refine wpAny_bind (wpAny_pure (wpAny_bind (wpAny_bind (wpAny_loadPart hx (wpAny_bind (PySem.W.Looks.here (s := { s with toks := s.toks + 1 }) (PySem.W.looks_clsIn X hc) ?_))))))
  rw [hd']
  refine wpAny_pure (a := some dx) (wpAny_bind (wpAny_pure (wpAny_bind ?_)))
  refine wpAny_nsSet1 (s := { s with toks := s.toks + 1 }) I.ns fun h' hn2 hs2 => ?_
  obtain ⟨oD, esD, epD, hoD, hdD, hcD⟩ := hn2.count (PySem.Within.cons name v hw)
  refine wpAny_bind (wpAny_lookBehind hoD (by rw [hdD]; exact pastItsLine_dict (Nat.le_trans hcD (by rw [List.length_cons]; omega))) ?_)
  exact wpAny_pure (h _ ⟨(hs2.2 _ (Ne.symm I.ne)).trans I.obj, hn2, I.ne⟩ hs2)
theorem make_map {R : Result → Shared → Prop} {vs : List Value} {kw : List (Str × Value)} (X : K.In s.heap) (hm : PySem.W.makesIn K C = true)
    (hi : PySem.W.findIn K (.ref C) "__init__" = some (some (.ref f))) (hf : PySem.W.typeIn K (.ref f) = some (.type "function"))
    (h : codeAny (model prog w) (A.under (.builtin "type.__call__" ⟨.ref C :: vs, kw⟩)) (.call (.ref f) ⟨.ref (s.heap.objs.size + 1) :: vs, kw⟩) (PySem.W.InitBack (s.heap.objs.size + 1) R)
      { s with heap := (s.heap.push PySem.W.emptyDict).push (PySem.W.instObj C s.heap.objs.size) }) :
    codeAny (model prog w) A (.call (.ref C) ⟨vs, kw⟩) R s := by
  obtain ⟨hh, g, d, t, os⟩ := s
  exact PySem.W.make_core (PySem.W.makes_of X hm) (PySem.W.looks_findIn X hi) (fun self => PySem.W.bind_fn X self hf) (.inl rfl) h
end
def putF (f : Str) (v : V) : List (Str × V) → List (Str × V)
  | [] => [(f, v)]
  | (g, x) :: r => if g = f then (g, v) :: r else (g, x) :: putF f v r
theorem lookup_putF (f g : Str) (v : V) : ∀ fs : List (Str × V), (putF f v fs).lookup g = if g = f then some v else fs.lookup g
  | [] => by
    show List.lookup g [(f, v)] = _
    by_cases h : g = f
    · have hb : (g == f) = true := beq_iff_eq.mpr h
      simp only [List.lookup, hb, if_pos h]
    · have hb : (g == f) = false := beq_eq_false_iff_ne.mpr h
      simp only [List.lookup, hb, if_neg h]
  | (k, x) :: r => by
    have ih := lookup_putF f g v r
    rw [show putF f v ((k, x) :: r) = (if k = f then (k, v) :: r else (k, x) :: putF f v r) from rfl]
    by_cases hk : k = f
    · rw [if_pos hk]
      by_cases h : g = k
      · have hb : (g == k) = true := beq_iff_eq.mpr h
        simp only [List.lookup, hb, if_pos (h.trans hk)]
      · have hb : (g == k) = false := beq_eq_false_iff_ne.mpr h
        simp only [List.lookup, hb, if_neg (fun e : g = f => h (e.trans hk.symm))]
    · rw [if_neg hk]
      by_cases h : g = k
      · have hb : (g == k) = true := beq_iff_eq.mpr h
        simp only [List.lookup, hb, if_neg (fun e : g = f => hk (h.symm.trans e))]
      · have hb : (g == k) = false := beq_eq_false_iff_ne.mpr h
        simp only [List.lookup, hb]
        exact ih
theorem keys_putF (f : Str) (v : V) : ∀ fs : List (Str × V), f ∈ (putF f v fs).map (·.1) ∧ ∀ g, g ∈ fs.map (·.1) → g ∈ (putF f v fs).map (·.1)
  | [] => ⟨by simp [putF], fun g h => by simp at h⟩
  | (k, x) :: r => by
    obtain ⟨i1, i2⟩ := keys_putF f v r
    rw [show putF f v ((k, x) :: r) = (if k = f then (k, v) :: r else (k, x) :: putF f v r) from rfl]
    by_cases hk : k = f
    · rw [if_pos hk]
      subst hk
      exact ⟨by simp, fun g h => by simpa using h⟩
    · rw [if_neg hk]
      refine ⟨?_, fun g h => ?_⟩
      · rw [List.map_cons]
        exact List.mem_cons_of_mem _ i1
      · rw [List.map_cons] at h ⊢
        rcases List.mem_cons.mp h with e | e
        · exact List.mem_cons.mpr (.inl e)
        · exact List.mem_cons_of_mem _ (i2 g e)
theorem length_putF (f : Str) (v : V) : ∀ fs : List (Str × V), (putF f v fs).length ≤ fs.length + 1
  | [] => by simp [putF]
  | (k, x) :: r => by
    have ih := length_putF f v r
    rw [show putF f v ((k, x) :: r) = (if k = f then (k, v) :: r else (k, x) :: putF f v r) from rfl]
    by_cases hk : k = f
    · rw [if_pos hk, List.length_cons, List.length_cons]; omega
    · rw [if_neg hk, List.length_cons, List.length_cons]; omega
theorem RelO.some_of {v : V} {o : Option Value} (r : RelO (some v) o) : ∃ u, o = some u ∧ RelV v u := by
  cases o with
  | none => exact (show False from r).elim
  | some u => exact ⟨u, rfl, r⟩
theorem handed_of {v : V} {u : Value} (r : RelV v u) : PySem.W.handedIn u = true := by
  cases v with
  | non => cases (show u = Value.none from r); rfl
  | bl b => cases (show u = Value.bool b from r); rfl
  | int i => obtain ⟨t, e⟩ := (show ∃ t, u = Value.int i t from r); cases e; rfl
  | str x => obtain ⟨t, e⟩ := (show ∃ t, u = Value.str x t from r); cases e; rfl
  | byt b => obtain ⟨t, e⟩ := (show ∃ t, u = Value.bytes b t from r); cases e; rfl
  | flt b => obtain ⟨t, e⟩ := (show ∃ t, u = Value.float b t from r); cases e; rfl
  | ref a => cases (show u = Value.ref a from r); rfl
  | ty n => cases (show u = Value.type n from r); rfl
section
variable {P : Program} {w : World} {H H' : Hp} {h h' : Heap} {a C dx : Addr} {fs fs' : List (Str × V)}
theorem ins_get (hok : HOk P w H h) (e : H a = some (.ins C dx fs)) : ∃ mA, ObjM h a dx C mA ∧ (∀ f, RelO (fs.lookup f) (mA f)) ∧ PySem.Within mA (fs.map (·.1)) ∧ fs.length ≤ 1000 ∧ H dx = some (.own a) := by
  obtain ⟨d, z, ne, ob, mA, n, r, q⟩ := (show ObjOk P w H h a (.ins C dx fs) from hok a _ e)
  exact ⟨mA, ⟨ob, n, ne⟩, r, q, z, d⟩
end
structure Cls (K : PySem.W.Frag) (C : Addr) : Prop where
  pg : PySem.W.plainGet K C Str.empty = true
  hd : PySem.W.hasDictIn K C = true
  po : PySem.W.plainOver K C = true
  sa : PySem.W.findIn K (.ref C) "__setattr__" = some (some (.builtin "object.__setattr__"))
theorem Cls.get {K : PySem.W.Frag} {C : Addr} (c : Cls K C) (f : Str) : PySem.W.plainGet K C f = true := c.pg
def NoAttr (K : PySem.W.Frag) (C : Addr) (f : Str) : Prop := PySem.W.findIn K (.ref C) f = some none
theorem NoAttr.taker {K : PySem.W.Frag} {C : Addr} {f : Str} (n : NoAttr K C f) : PySem.W.takerIn K C f = some none := by
  unfold PySem.W.takerIn
  rw [show PySem.W.findIn K (.ref C) f = some none from n]
  rfl
section
variable {X : Cx} {pins : List (Addr × Obj)} {σ : St} {H : Hp} {s : Shared} {a C dx : Addr} {fs : List (Str × V)} {f : Str} {v : V} {A : Around} {E : Value → Shared → Prop}
theorem getattr_ok {b : Bool} {Q : Value → Shared → Prop} (I : Inv X pins σ H s) (e : H a = some (.ins C dx fs)) (c : Cls X.K C) (n : NoAttr X.K C f) (l : fs.lookup f = some v)
    (h : ∀ u s', Inv X pins σ H s' → RelV v u → Q u s') : wpAny (model X.prog X.w) A (getAttr (.ref a) f b) Q E s := by
  obtain ⟨mA, O, r, _, _, _⟩ := ins_get I.hok e
  obtain ⟨u, hu, ru⟩ := RelO.some_of (v := v) (o := mA f) (by rw [← l]; exact r f)
  exact get_map I.kIn O (c.get f) c.hd n hu (handed_of ru) (h u _ (I.tok _) ru)
theorem setattr_ok {y : V} {u : Value} {Q : Unit → Shared → Prop} (I : Inv X pins σ H s) (e : H a = some (.ins C dx fs)) (c : Cls X.K C) (n : NoAttr X.K C f) (hl : fs.length < 1000) (ry : RelV y u)
    (h : ∀ s', Inv X pins σ (upd H a (.ins C dx (putF f y fs))) s' → Q () s') : wpAny (model X.prog X.w) A (setAttr (.ref a) f u) Q E s := by
  obtain ⟨mA, O, r, wi, _, ho⟩ := ins_get I.hok e
  have hz : (fs.map (·.1)).length ≤ sizeLine := by rw [List.length_map, sizeLine_eq]; omega
  refine set_map I.kIn O c.sa c.po n.taker c.hd wi hz fun h' O' sb => h _ ?_
  have hd : ∃ o, h'.get? dx = some o := let ⟨o, _, _, e', _⟩ := O'.ns; ⟨o, e'⟩
  refine I.write (x := a) (e := dx) (by rw [e]; exact True.intro) (.inr ho) (fun b q hb z => (sb.2 b hb).trans z) hd ?_
  refine ⟨by rw [upd_ne O.ne]; exact ho, ?_, O.ne, O'.obj, _, O'.ns, fun g => ?_, fun g hg => ?_⟩
  · have := length_putF f y fs; omega
  · show RelO ((putF f y fs).lookup g) (if g = f then some u else mA g)
    rw [lookup_putF]
    by_cases q : g = f
    · rw [if_pos q, if_pos q]; exact ry
    · rw [if_neg q, if_neg q]; exact r g
  · by_cases q : g = f
    · rw [q]; exact (keys_putF f y fs).1
    · refine (keys_putF f y fs).2 g (wi g fun z => hg ?_)
      show (if g = f then some u else mA g) = none
      rw [if_neg q]; exact z
theorem Inv.made (I : Inv X pins σ H s) : Inv X pins σ (upd (upd H s.heap.objs.size (.own (s.heap.objs.size + 1))) (s.heap.objs.size + 1) (.ins C s.heap.objs.size []))
    { s with heap := (s.heap.push PySem.W.emptyDict).push (PySem.W.instObj C s.heap.objs.size) } := by
  have e1 : (s.heap.push PySem.W.emptyDict).get? s.heap.objs.size = some PySem.W.emptyDict := Heap.get?_push_size s.heap rfl
  have e2 : ((s.heap.push PySem.W.emptyDict).push (PySem.W.instObj C s.heap.objs.size)).get? (s.heap.objs.size + 1) = some (PySem.W.instObj C s.heap.objs.size) := by
    have := Heap.get?_push_size (s.heap.push PySem.W.emptyDict) (o := PySem.W.instObj C s.heap.objs.size) rfl
    rwa [Heap.size_push] at this
  have e3 : (s.heap.push PySem.W.emptyDict).Ns s.heap.objs.size (fun _ => none) := ⟨PySem.W.emptyDict, #[], _, e1, rfl, (fun e he => absurd he (by simp)), fun _ => rfl⟩
  have I1 := I.laid (a := s.heap.objs.size) (o := .own (s.heap.objs.size + 1)) (h' := s.heap.push PySem.W.emptyDict) (t' := s.toks) (fun b u q => Heap.get?_push_of_some _ q) (Nat.le_refl _) ⟨_, e1⟩
  refine I1.laid (a := s.heap.objs.size + 1) (o := .ins C s.heap.objs.size []) (t' := s.toks) (fun b u q => Heap.get?_push_of_some _ q) (Nat.le_of_eq (Heap.size_push _ _)) ?_
  have ne : s.heap.objs.size ≠ s.heap.objs.size + 1 := Nat.ne_of_lt (Nat.lt_succ_self _)
  refine ⟨by rw [upd_ne ne, upd_same], Nat.zero_le _, ne, e2, fun _ => none, (Heap.Ns1.of_empty e3).at fun o q => Heap.get?_push_of_some _ q, fun _ => True.intro, fun y hy => absurd rfl hy⟩
theorem attr_of {prog : Program} {w : World} {env : Env} {e : Expr} {f : Str} {pos : Pos} {s : Shared} {Q : Value → Shared → Prop} (hb : attributeBase e f env (eval e env) = eval e env)
    (h : wpAny (model prog w) A (eval e env) (fun o s₁ => wpAny (model prog w) A (getAttr o f true) Q E s₁) E s) : wpAny (model prog w) A (eval (.Attribute e f pos) env) Q E s :=
  Attribute_any_ h (by rw [arm_eval_Attribute, hb])
end
def tFld (K : PySem.W.Frag) (ta : TE) (f : Str) : TE := fun σ H Q => ta σ H fun x H1 => ∃ a C dx fs v, x = .ref a ∧ H1 a = some (.ins C dx fs) ∧ Cls K C ∧ NoAttr K C f ∧ fs.lookup f = some v ∧ Q v H1
def sFld (K : PySem.W.Frag) (ta tv : TE) (f : Str) : TS := fun D σ H => tv σ H fun y H1 => ta σ H1 fun x H2 => ∃ a C dx fs, x = .ref a ∧ H2 a = some (.ins C dx fs) ∧ Cls K C ∧ NoAttr K C f ∧ fs.length < 1000 ∧
  D.nx σ (upd H2 a (.ins C dx (putF f y fs)))
section
variable {X : Cx} {o e value : Expr} {f : Str} {pos pos' tpos : Pos} {ta tv : TE}
theorem pe_fld (he : PE X e ta) (hb : attributeBase e f X.env (eval e X.env) = eval e X.env) : PE X (.Attribute e f pos) (tFld X.K ta f) := by
  intro pins s σ H Q I h
  refine attr_of hb (thn (he pins s σ H _ I h) fun u s1 ⟨x, H1, I1, rx, a, C, dx, fs, v, ex, ea, c, n, l, q⟩ => ?_)
  subst ex
  obtain rfl : u = Value.ref a := rx
  exact getattr_ok I1 ea c n l fun u' s2 I2 ru => ⟨v, H1, I2, ru, q⟩
theorem ps_fld (ha : PE X o ta) (hv : PE X value tv) (hs : swapsWith value (some (.Attribute o f pos')) pos.line X.env = pure false) : PS X (.Assign [.Attribute o f pos'] value pos) (sFld X.K ta tv f) := by
  intro pins s σ H D I h
  refine plainObj_wpAny_Assign_Attribute (thn (hv pins s σ H _ I h) fun u s1 ⟨y, H1, I1, ry, q⟩ => thn (ha pins s1 σ H1 _ I1 q) fun ov s2 ⟨x, H2, I2, rx, a, C, dx, fs, ex, ea, c, n, l, q2⟩ => ?_) hs
  subst ex
  obtain rfl : ov = Value.ref a := rx
  exact setattr_ok I2 ea c n l ry fun s3 I3 => ⟨σ, _, I3, q2⟩
end
section
variable {X : Cx} {pins : List (Addr × Obj)} {σ : St} {H : Hp} {s : Shared} {A : Around} {E : Value → Shared → Prop} {Q : Value → Shared → Prop} {c : Value} {b : Bool}
end
end L2
namespace L2
open PySem PySem.Spec PyProof.Rows
structure Room (k : Nat) (A : Around) : Prop where
  hd : A.handled = none
  dp : A.depth + 3 * k + 5 < recursionLimit
  un : A.units + 16 * k + 200 < cLine
theorem Room.mono {j k : Nat} {A : Around} (r : Room k A) (h : j ≤ k) : Room j A := ⟨r.hd, by have := r.dp; omega, by have := r.un; omega⟩
theorem Room.deeper {k : Nat} {A : Around} (r : Room (k + 1) A) (env : Env) : Room k (A.deeper env) :=
  ⟨r.hd, by have := r.dp; show A.depth + 1 + 3 * k + 5 < _; omega, by have := r.un; show A.units + 3 + 16 * k + 200 < _; omega⟩
theorem make_depth {A : Around} {C : Addr} {us : List Value} {kw : List (Str × Value)} : (A.under (.builtin "type.__call__" ⟨.ref C :: us, kw⟩)).depth = A.depth + 1 := by
  first | rfl | simp [Around.under, Code.weight, Code.isCreation, Code.isGuard, Code.isCaller, Code.frames, Code.isFrame, guardIds]
theorem make_units {A : Around} {C : Addr} {us : List Value} {kw : List (Str × Value)} : (A.under (.builtin "type.__call__" ⟨.ref C :: us, kw⟩)).units = A.units + 1 := by
  first | rfl | simp [Around.under, Code.cUnits, Code.frames, Code.isFrame]
theorem Room.make {k : Nat} {A : Around} (r : Room (k + 1) A) (C : Addr) (us : List Value) (kw : List (Str × Value)) : Room k (A.under (.builtin "type.__call__" ⟨.ref C :: us, kw⟩)) :=
  ⟨r.hd, by have := r.dp; rw [make_depth]; omega, by have := r.un; rw [make_units]; omega⟩
theorem Room.depth {k : Nat} {A : Around} (r : Room k A) : A.depth < recursionLimit := by have := r.dp; omega
theorem Room.units {k : Nat} {A : Around} (r : Room k A) : A.units + 64 < cLine := by have := r.un; omega
theorem Room.units0 {k : Nat} {A : Around} (r : Room k A) : A.units < cLine := by have := r.un; omega
def tNil : TA := fun _ H Q => Q [] H
def tCons (ta : TE) (tr : TA) : TA := fun σ H Q => ta σ H fun x H1 => tr σ H1 fun xs H2 => Q (x :: xs) H2
section
variable {X : Cx} {e : Expr} {es : List Expr} {te : TE} {t : TA} {pos : Pos}
theorem pa_nil : PA X [] tNil := fun _ _ _ _ H Q I h => Calls.spliced_nil ⟨[], H, I, .nil, h⟩
theorem pa_cons (ha : PE X e te) (hr : PA X es t) (hs : starEach (e :: es) X.env = (false, eval e X.env) :: starEach es X.env := by rfl) : PA X (e :: es) (tCons te t) := by
  intro pos pins s σ H Q I h
  rw [hs]
  show wpAny _ _ (spliced ((false, eval e X.env) :: backTo pos (starEach es X.env))) _ _ s
  refine Calls.spliced_cons (thn (ha pins s σ H _ I h) fun u s1 ⟨x, H1, I1, r1, q1⟩ => ?_)
  exact thn (hr pos pins s1 σ H1 _ I1 q1) fun us s2 ⟨xs, H2, I2, r2, q2⟩ => ⟨x :: xs, H2, I2, .cons r1 r2, q2⟩
def tTup (t : TA) : TE := fun σ H Q => t σ H fun xs H1 => xs.length ≤ sizeLine ∧ ∀ p, H1 p = none → Q (.ref p) (upd H1 p (.tup xs))
def tLst (t : TA) : TE := fun σ H Q => t σ H fun xs H1 => xs.length ≤ sizeLine ∧ ∀ p, H1 p = none → Q (.ref p) (upd H1 p (.lst xs))
theorem pe_tup {x1} (h : PA X es t) : PE X (.Tuple es x1 pos) (tTup t) := by
  intro pins s σ H Q I hq
  refine wpAny_Tuple_spliced (thn (h pos pins s σ H _ I hq) fun us s1 ⟨xs, H1, I1, r, z, q⟩ => ⟨by rw [← r.length]; exact z, ?_⟩)
  have hf : H1 s1.heap.objs.size = none := I1.hok.fresh (Nat.le_refl _)
  refine ⟨.ref s1.heap.objs.size, upd H1 s1.heap.objs.size (.tup xs), I1.laid (t' := s1.toks) (fun b u e => Heap.get?_push_of_some _ e) (Nat.le_refl _) ?_, rfl, q _ hf⟩
  exact ⟨z, us, r, ⟨_, Heap.get?_push_size _ rfl, rfl, _, rfl⟩⟩
theorem pe_lst (h : PA X es t) : PE X (.List es pos) (tLst t) := by
  intro pins s σ H Q I hq
  refine wpAny_List_spliced (thn (h pos pins s σ H _ I hq) fun us s1 ⟨xs, H1, I1, r, z, q⟩ => ⟨by rw [← r.length]; exact z, ?_⟩)
  have hf : H1 s1.heap.objs.size = none := I1.hok.fresh (Nat.le_refl _)
  refine ⟨.ref s1.heap.objs.size, upd H1 s1.heap.objs.size (.lst xs), I1.laid (t' := s1.toks) (fun b u e => Heap.get?_push_of_some _ e) (Nat.le_refl _) ?_, rfl, q _ hf⟩
  exact ⟨z, us, 0, r, Heap.get?_push_size _ rfl⟩
end
abbrev Sp := List V → Hp → VK → XK → Prop
abbrev CXT := List Env → Hp → Shared → XK → Value → Shared → Prop
structure Env0 (P : Program) (w : World) (K : PySem.W.Frag) (mg : Str → Option Value) (base : Heap) (A : Around) (outer : List Env) (s : Shared) (H : Hp) : Prop where
  frames : A.frames = some outer
  mod : Mod K mg base
  bs : ∀ b o, base.get? b = some o → s.heap.get? b = some o ∧ H b = none
  bsz : base.objs.size ≤ s.heap.objs.size
  funs : s.heap.FunFrames base outer
  frf : ∀ b ∈ frs outer, H b = none
  hok : HOk P w H s.heap
  bare : AllBare s.gens
def CE (outer : List Env) (P : Program) (w : World) (H : Hp) (s : Shared) (Q : VK) (u : Value) (s' : Shared) : Prop :=
  ∃ v H', s'.os = s.os ∧ AllBare s'.gens ∧ Un (frs outer) [] H H' s.heap s'.heap ∧ HOk P w H' s'.heap ∧ RelV v u ∧ Q v H'
def CR (CX : CXT) (outer : List Env) (P : Program) (w : World) (H : Hp) (s : Shared) (Q : VK) (E : XK) (r : Result) (s' : Shared) : Prop :=
  match r with
  | .ok (.ret u) => CE outer P w H s Q u s'
  | .ok _ => False
  | .error e => CX outer H s E e s'
structure FnOk (P : Program) (w : World) (K : PySem.W.Frag) (mg : Str → Option Value) (base : Heap) (CX : CXT) (k : Nat) (f : Addr) (fd : FuncData) (ps : List Str) (sp : Sp) : Prop where
  len : ∀ vs H Q E, sp vs H Q E → vs.length = ps.length
  run : ∀ (A : Around) (outer : List Env) (s : Shared) (H : Hp) (args : Args) (us : List Value) (vs : List V) (Q : VK) (E : XK), Room k A → Env0 P w K mg base A outer s H → BindsTo s fd args (ps.zip us) → Vals vs us → sp vs H Q E →
    codeAny (model P w) A (.call (.ref f) args) (CR CX outer P w H s Q E) s
theorem Env0.make {P : Program} {w : World} {K : PySem.W.Frag} {mg : Str → Option Value} {base : Heap} {A : Around} {outer : List Env} {s : Shared} {H : Hp} (e : Env0 P w K mg base A outer s H) (C : Addr) (us : List Value) (kw : List (Str × Value)) :
    Env0 P w K mg base (A.under (.builtin "type.__call__" ⟨.ref C :: us, kw⟩)) outer s H := ⟨by first | exact e.frames | (simpa [Around.under, Code.envs, Code.isFrame, pushEnvs] using e.frames), e.mod, e.bs, e.bsz, e.funs, e.frf, e.hok, e.bare⟩
section
variable {X : Cx} {pins : List (Addr × Obj)} {σ : St} {H : Hp} {s s' : Shared}
theorem Inv.env0 (I : Inv X pins σ H s) : Env0 X.prog X.w X.K X.mg X.base X.A X.stack s H :=
  ⟨I.ok.frames, I.ok.mod, I.bs, Nat.le_trans I.ok.bsz I.sz, I.stack, I.stkFree, I.hok, I.bare⟩
theorem Inv.after {Q : VK} {u : Value} (I : Inv X pins σ H s) (h : CE X.stack X.prog X.w H s Q u s') : EP X pins σ Q u s' := by
  obtain ⟨v, H', os, bare, un, hok, r, q⟩ := h
  obtain ⟨hh, g, d, t, os'⟩ := s'
  obtain rfl : os' = s.os := os
  exact ⟨v, H', I.call (h' := hh) (g' := g) (d' := d) (t' := t) (ch := []) un hok bare (fun b z => absurd z (by simp)), r, q⟩
end
def tCall (sp : Sp) (dvs : List V) (E : XK) (t : TA) : TE := fun σ H Q => t σ H fun vs H1 => sp (vs ++ dvs) H1 Q E
def tMake (C : Addr) (sp : Sp) (dvs : List V) (E : XK) (t : TA) : TE := fun σ H Q => t σ H fun vs H1 => ∀ x dx, H1 x = none → H1 dx = none → dx ≠ x →
  sp (.ref x :: (vs ++ dvs)) (upd (upd H1 dx (.own x)) x (.ins C dx [])) (fun v H2 => v = .non ∧ Q (.ref x) H2) E
def Binds (K : PySem.W.Frag) (fd : FuncData) (ps : List Str) (ds : List Value) : Prop :=
  ∀ (s : Shared) (us : List Value), K.In s.heap → (us ++ ds).length = ps.length → BindsTo s fd ⟨us, []⟩ (ps.zip (us ++ ds))
theorem Binds.all {K : PySem.W.Frag} {fd : FuncData} {ps : List Str} (h : ∀ us : List Value, us.length = ps.length → bindArgs fd ⟨us, []⟩ = pure (ps.zip us)) : Binds K fd ps [] := fun s us _ hl => by
  rw [List.append_nil] at hl ⊢
  exact .of_eq (h us hl)
def Passes (CX : CXT) (X : Cx) (E : XK) : Prop := ∀ (pins : List (Addr × Obj)) (σ : St) (H : Hp) (s : Shared) (e : Value) (s' : Shared), Inv X pins σ H s → CX X.stack H s E e s' → X.xe e s'
section
variable {X : Cx} {CX : CXT} {k : Nat} {f C : Addr} {fd : FuncData} {ps : List Str} {sp : Sp} {dvs : List V} {ds : List Value} {E : XK} {x m : Str} {p pos apos : Pos} {e o : Expr} {es : List Expr} {ta : TE} {t : TA}
theorem run_fn {pins : List (Addr × Obj)} {σ : St} {H : Hp} {s : Shared} {Q : VK} {us : List Value} {vs : List V} (F : FnOk X.prog X.w X.K X.mg X.base CX k f fd ps sp) (hr : Room k X.A) (hb : Binds X.K fd ps ds) (hd : Vals dvs ds) (hx : Passes CX X E)
    (I : Inv X pins σ H s) (r : Vals vs us) (h : sp (vs ++ dvs) H Q E) : wpAny (model X.prog X.w) X.A (call (.ref f) us) (EP X pins σ Q) X.xe s := by
  have r2 : Vals (vs ++ dvs) (us ++ ds) := r.append hd
  have hl : (us ++ ds).length = ps.length := by rw [← r2.length]; exact F.len _ _ _ _ h
  refine wpAny_call (codeAny_mono (F.run X.A X.stack s H ⟨us, []⟩ (us ++ ds) (vs ++ dvs) Q E hr I.env0 (hb s us I.kIn hl) r2 h) fun r s' hq => ?_)
  cases r with
  | error e => exact hx pins σ H s e s' I hq
  | ok fl =>
    cases fl with
    | ret u => exact I.after hq
    | next => exact False.elim hq
    | brk => exact False.elim hq
    | cont => exact False.elim hq
theorem pe_call (F : FnOk X.prog X.w X.K X.mg X.base CX k f fd ps sp) (hr : Room k X.A) (hg : Gl X x) (hm : X.mg x = some (.ref f)) (hk : PySem.W.keepIn X.K (.ref f) = true) (hb : Binds X.K fd ps ds) (hd : Vals dvs ds) (hx : Passes CX X E)
    (ha : PA X (e :: es) t) (hdb : (x == ("__debug__" : Str)) = false := by decide) (he : starEach (e :: es) X.env = (false, eval e X.env) :: starEach es X.env := by rfl) (hpl : (backTo pos (starEach es X.env)).any (·.1) = false := by rfl) :
    PE X (.Call (.Name x p) (e :: es) [] pos) (tCall sp dvs E t) := by
  intro pins s σ H Q I h
  refine wpAny_Call_Name_kw (ld_glob I hg hm ?_ hdb)
  refine PySem.W.callWith_K (h₀ := X.base) I.ok.mod.kin hk (thn (ha pos pins s σ H _ I h) fun us s1 ⟨vs, H1, I1, r, q⟩ => ⟨I1.kIn, ?_⟩) he hpl
  exact run_fn F hr hb hd hx I1 r q
structure Mk (K : PySem.W.Frag) (C f : Addr) : Prop where
  makes : PySem.W.makesIn K C = true
  init : PySem.W.findIn K (.ref C) "__init__" = some (some (.ref f))
  fn : PySem.W.isFn K (.ref f) = true
  kp : PySem.W.keepIn K (.ref C) = true
theorem run_make {pins : List (Addr × Obj)} {σ : St} {H : Hp} {s : Shared} {Q : VK} {us : List Value} {vs : List V} (M : Mk X.K C f) (F : FnOk X.prog X.w X.K X.mg X.base CX k f fd ps sp) (hr : Room (k + 1) X.A) (hb : Binds X.K fd ps ds) (hd : Vals dvs ds)
    (hx : Passes CX X E) (I : Inv X pins σ H s) (r : Vals vs us)
    (h : ∀ x dx, H x = none → H dx = none → dx ≠ x → sp (.ref x :: (vs ++ dvs)) (upd (upd H dx (.own x)) x (.ins C dx [])) (fun v H2 => v = .non ∧ Q (.ref x) H2) E) :
    wpAny (model X.prog X.w) X.A (call (.ref C) us) (EP X pins σ Q) X.xe s := by
  have hq := h (s.heap.objs.size + 1) s.heap.objs.size (I.hok.fresh (Nat.le_succ _)) (I.hok.fresh (Nat.le_refl _)) (Nat.ne_of_lt (Nat.lt_succ_self _))
  have I2 := Inv.made (C := C) I
  have r2 : Vals (V.ref (s.heap.objs.size + 1) :: (vs ++ dvs)) (Value.ref (s.heap.objs.size + 1) :: (us ++ ds)) := .cons rfl (r.append hd)
  have hl : (Value.ref (s.heap.objs.size + 1) :: us ++ ds).length = ps.length := by
    have e := r2.length
    rw [F.len _ _ _ _ hq] at e
    exact e.symm
  refine wpAny_call (make_map (f := f) I.kIn M.makes M.init (beq_iff_eq.mp M.fn) (codeAny_mono (F.run _ X.stack _ _ ⟨Value.ref (s.heap.objs.size + 1) :: us, []⟩ (Value.ref (s.heap.objs.size + 1) :: (us ++ ds)) _ _ E (hr.make C us [])
    (I2.env0.make C us []) (hb _ (Value.ref (s.heap.objs.size + 1) :: us) I2.kIn hl) r2 hq) fun r s' hq' => ?_))
  cases r with
  | error e => exact hx pins σ _ _ e s' I2 hq'
  | ok fl =>
    cases fl with
    | ret u =>
      obtain ⟨v, H', I3, rv, ev, q3⟩ := I2.after hq'
      subst ev
      exact ⟨rv, ⟨V.ref (s.heap.objs.size + 1), H', I3, rfl, q3⟩⟩
    | next => exact False.elim hq'
    | brk => exact False.elim hq'
    | cont => exact False.elim hq'
theorem pe_make (M : Mk X.K C f) (F : FnOk X.prog X.w X.K X.mg X.base CX k f fd ps sp) (hr : Room (k + 1) X.A) (hg : Gl X x) (hm : X.mg x = some (.ref C)) (hb : Binds X.K fd ps ds) (hd : Vals dvs ds) (hx : Passes CX X E)
    (ha : PA X (e :: es) t) (hdb : (x == ("__debug__" : Str)) = false := by decide) (he : starEach (e :: es) X.env = (false, eval e X.env) :: starEach es X.env := by rfl) (hpl : (backTo pos (starEach es X.env)).any (·.1) = false := by rfl) :
    PE X (.Call (.Name x p) (e :: es) [] pos) (tMake C sp dvs E t) := by
  intro pins s σ H Q I h
  refine wpAny_Call_Name_kw (ld_glob I hg hm ?_ hdb)
  refine PySem.W.callWith_K (h₀ := X.base) I.ok.mod.kin M.kp (thn (ha pos pins s σ H _ I h) fun us s1 ⟨vs, H1, I1, r, q⟩ => ⟨I1.kIn, ?_⟩) he hpl
  exact run_make M F hr hb hd hx I1 r q
end
section
variable {X : Cx} {CX : CXT} {k : Nat} {f C : Addr} {fd : FuncData} {ps ks : List Str} {sp : Sp} {E : XK} {x m : Str} {p pos apos kpos : Pos} {e o : Expr} {es : List Expr} {kws : List Keyword} {te ta : TE} {t tk : TA} {nm : Option Str}
variable {g : List Value → List Value → List Value} {gV : List V → List V → List V}
end
structure FnScope (N P : List Str) (sc : Scope) : Prop where
  kind : sc.kind = .function
  co : sc.isCoroutine = false
  gen : sc.isGenerator = false
  nd : N.Nodup
  pre : N.take P.length = P
  par : ∀ x ∈ P, sc.names.lookup x = some .local ∨ sc.names.lookup x = some .cell
  nofree : ∀ y ∈ sc.names, y.2 ≠ .free
theorem bindL_out {kindOf : Str → Option NameKind} {x : Str} : ∀ {binds : List (Str × Value)} {m : Str → Option Value}, (∀ v, (x, v) ∉ binds) → bindL kindOf binds m x = m x
  | [], _, _ => rfl
  | (n, v) :: r, m, h => by
    unfold bindL
    rw [bindL_out fun w hw => h w (List.mem_cons_of_mem _ hw)]
    split
    · have : x ≠ n := by rintro rfl; exact h v List.mem_cons_self
      simp [this]
    · rfl
theorem bindC_out {kindOf : Str → Option NameKind} {x : Str} : ∀ {binds : List (Str × Value)} {m : Str → Option Value}, (∀ v, (x, v) ∉ binds) → bindC kindOf binds m x = m x
  | [], _, _ => rfl
  | (n, v) :: r, m, h => by
    unfold bindC
    rw [bindC_out fun w hw => h w (List.mem_cons_of_mem _ hw)]
    split
    · rfl
    · have : x ≠ n := by rintro rfl; exact h v List.mem_cons_self
      simp [this]
theorem bindL_get {kindOf : Str → Option NameKind} {x : Str} {v : Value} : ∀ {P : List Str} {vs : List Value} {i : Nat} {m : Str → Option Value}, P.Nodup → P[i]? = some x → vs[i]? = some v → kindOf x = some .local →
    bindL kindOf (P.zip vs) m x = some v
  | [], _, _, _, _, h, _, _ => by simp at h
  | _ :: _, [], _, _, _, _, h, _ => by simp at h
  | p :: P, w :: vs, 0, m, nd, h1, h2, hk => by
    simp at h1 h2; subst h1; subst h2
    show bindL kindOf ((p, w) :: P.zip vs) m p = _
    unfold bindL
    rw [bindL_out fun v hv => (List.nodup_cons.mp nd).1 (List.of_mem_zip hv).1, if_pos hk]
    simp
  | p :: P, w :: vs, i + 1, m, nd, h1, h2, hk => by
    show bindL kindOf ((p, w) :: P.zip vs) m x = _
    unfold bindL
    exact bindL_get (i := i) (List.nodup_cons.mp nd).2 (by simpa using h1) (by simpa using h2) hk
theorem bindC_get {kindOf : Str → Option NameKind} {x : Str} {v : Value} : ∀ {P : List Str} {vs : List Value} {i : Nat} {m : Str → Option Value}, P.Nodup → P[i]? = some x → vs[i]? = some v → kindOf x ≠ some .local →
    bindC kindOf (P.zip vs) m x = some v
  | [], _, _, _, _, h, _, _ => by simp at h
  | _ :: _, [], _, _, _, _, h, _ => by simp at h
  | p :: P, w :: vs, 0, m, nd, h1, h2, hk => by
    simp at h1 h2; subst h1; subst h2
    show bindC kindOf ((p, w) :: P.zip vs) m p = _
    unfold bindC
    rw [bindC_out fun v hv => (List.nodup_cons.mp nd).1 (List.of_mem_zip hv).1, if_neg hk]
    simp
  | p :: P, w :: vs, i + 1, m, nd, h1, h2, hk => by
    show bindC kindOf ((p, w) :: P.zip vs) m x = _
    unfold bindC
    exact bindC_get (i := i) (List.nodup_cons.mp nd).2 (by simpa using h1) (by simpa using h2) hk
def start (N : List Str) (vs : List V) : St := vs.map some ++ List.replicate (N.length - vs.length) none
def cxOf (CX : CXT) (P : Program) (w : World) (K : PySem.W.Frag) (mg : Str → Option Value) (base : Heap) (N : List Str) (qual : Str) (scope : Scope) (f : Addr) (cd : Value) (A : Around) (outer : List Env) (s : Shared) (H : Hp) (E : XK) : Cx where
  prog := P
  w := w
  K := K
  mg := mg
  base := base
  A := A.deeper (envOfC qual scope s.heap.objs.size f cd)
  N := N
  s_0 := s
  H_0 := H
  env := envOfC qual scope s.heap.objs.size f cd
  outer := outer
  stack := envOfC qual scope s.heap.objs.size f cd :: outer
  ex := []
  calm := true
  fn := fun _ => true
  pn := []
  xe := fun e s' => wpAny (model P w) (A.deeper (envOfC qual scope s.heap.objs.size f cd)) (leaving (envOfC qual scope s.heap.objs.size f cd) e) (fun _ s'' => CX outer H s E e s'') (fun e' s'' => CX outer H s E e' s'') s'
theorem cell_has {sc : Scope} {n : Nat} {x : Str} (h : sc.names.lookup x = some .cell) : ∃ c, (cellsFrom n sc.names []).lookup x = some c := by
  have q := PySem.W.cellsFrom_some sc.names n [] (.inl h)
  exact Option.isSome_iff_exists.mp q
theorem inv_start {CX : CXT} {P : Program} {w : World} {K : PySem.W.Frag} {mg : Str → Option Value} {base : Heap} {N ps : List Str} {qual : Str} {scope : Scope} {f : Addr} {cd : Value} {A : Around} {outer : List Env} {s s1 : Shared} {H : Hp} {E : XK} {us : List Value} {vs : List V}
    (S : FnScope N ps scope) (hd : A.handled = none) (e0 : Env0 P w K mg base A outer s H) (hl : vs.length = ps.length) (r : Vals vs us)
    (x : InCallC s s.heap.objs.size (bindL (envOfC qual scope s.heap.objs.size f cd).kindOf (ps.zip us) fun _ => none) (cellsFrom (s.heap.objs.size + 1) scope.names []) (bindC (envOfC qual scope s.heap.objs.size f cd).kindOf (ps.zip us) fun _ => none) s1) :
    Inv (cxOf CX P w K mg base N qual scope f cd A outer s H E) [] (start N vs) H s1 := by
  have hpl : ps.length ≤ N.length := by have := congrArg List.length S.pre; rw [List.length_take] at this; omega
  obtain ⟨h1, tk, rfl, hk⟩ := x.done
  have noA : ∀ b : Addr, b ∉ (cxOf CX P w K mg base N qual scope f cd A outer s H E).ex := fun b z => absurd (show b ∈ ([] : List Addr) from z) (by simp)
  refine ⟨⟨e0.mod, S.kind, rfl, rfl, Nat.le_refl _, fun y z c h1 h2 => ?_, fun y hy => ?_, fun y c _ h => ?_, fun _ => hd, Around.frames_deeper e0.frames, .inr ⟨rfl, rfl⟩, fun b z => absurd z (noA b), e0.bs, e0.bsz, fun b _ _ => noA b, fun b z => absurd z (noA b), e0.funs, e0.frf⟩,
    rfl, e0.bare, Un.kept hk, ⟨_, x.toInCall.ns, fun i y v h1 h2 h3 => ?_⟩, fun y c h => ⟨_, x.cell y c h⟩, e0.hok.fresh (Nat.le_refl _), fun y c h => ?_, fun p hp => absurd (show p ∈ ([] : List (Addr × Obj)) from hp) (by simp), e0.hok.kept hk, ?_⟩
  · exact name_of_addr x.apart (PySem.mem_of_lookup h1) (PySem.mem_of_lookup h2)
  · have hy : scope.names.lookup y = some .cell ∨ scope.names.lookup y = some .free := hy
    rcases hy with hy | hy
    · exact cell_has hy
    · exact absurd rfl (S.nofree _ (PySem.mem_of_lookup hy))
  · exact Nat.le_of_lt (x.above y c (PySem.mem_of_lookup h))
  · have hi : i < vs.length := by
      unfold start at h2
      by_cases hi : i < vs.length
      · exact hi
      · rw [List.getElem?_append_right (by simpa using hi)] at h2
        rw [List.getElem?_replicate] at h2
        split at h2 <;> cases h2
    have ha : vs[i]? = some v := by
      unfold start at h2
      rw [List.getElem?_append_left (by simpa using hi), List.getElem?_map] at h2
      cases e : vs[i]? with
      | none => rw [e] at h2; cases h2
      | some a => rw [e] at h2; cases h2; rfl
    obtain ⟨u, hu, rv⟩ := r.get ha
    have hp : ps[i]? = some y := by
      rw [← S.pre, List.getElem?_take_of_lt (by omega)]; exact h1
    have ndP : ps.Nodup := by rw [← S.pre]; exact S.nd.sublist (List.take_sublist _ _)
    refine ⟨u, rv, ?_⟩
    rcases S.par y (List.mem_of_getElem? hp) with k | k
    · exact .inl ⟨k, bindL_get ndP hp hu k⟩
    · obtain ⟨c, e⟩ := cell_has (n := s.heap.objs.size + 1) k
      refine .inr ⟨.inl k, c, e, ?_⟩
      have q := x.cell y c e
      rw [bindC_get ndP hp hu (by show scope.names.lookup y ≠ _; rw [k]; decide)] at q
      exact q
  · exact e0.hok.fresh (Nat.le_of_lt (x.above y c (PySem.mem_of_lookup h)))
  · unfold start
    show _ = N.length
    rw [List.length_append, List.length_map, List.length_replicate]
    omega
theorem fn_of {CX : CXT} {P : Program} {w : World} {K : PySem.W.Frag} {mg : Str → Option Value} {base : Heap} {k : Nat} {f : Addr} {name qual : Str} {params : Arguments} {body : List Stmt} {scope : Scope} {dV kV doc pm cdv ct oc : Value} {an od : Option Addr}
    {osl : Array (Option Value)} {N ps : List Str} {sp : Sp} (lk : K.lookup f = some ⟨oc, od, .func (PySem.W.fnOf name qual params body scope dV kV doc pm an cdv ct), osl⟩) (hcd : PySem.W.codeIn K cdv qual = true) (S : FnScope N ps scope)
    (len : ∀ vs H Q E, sp vs H Q E → vs.length = ps.length)
    (hbody : ∀ (A : Around) (outer : List Env) (s : Shared) (H : Hp) (vs : List V) (Q : VK) (E : XK), Room k (A.deeper (envOfC qual scope s.heap.objs.size f cdv)) → sp vs H Q E →
      ∃ t, PSs (cxOf CX P w K mg base N qual scope f cdv A outer s H E) body t ∧ t { nx := fun _ H' => Q .non H', rt := Q } (start N vs) H) :
    FnOk P w K mg base CX (k + 1) f (PySem.W.fnOf name qual params body scope dV kV doc pm an cdv ct) ps sp := by
  refine ⟨len, fun A outer s H args us vs Q E hr e0 hb r hsp => ?_⟩
  have hl := len _ _ _ _ hsp
  have KX : K.In s.heap := e0.mod.kin.keeps fun b o e => (e0.bs b o e).1
  have lim : s.heap.NoLimit := e0.mod.nolimit.keeps fun b o e => (e0.bs b o e).1
  have hkind : ∀ y ∈ ps.zip us, scope.names.lookup y.1 = some .local ∨ (scope.names.lookup y.1 = some .cell ∧ ((cellsFrom (s.heap.objs.size + 1) scope.names []).lookup y.1).isSome = true) := fun ⟨n, v⟩ hy => by
    rcases S.par n (List.of_mem_zip hy).1 with q | q
    · exact .inl q
    · exact .inr ⟨q, PySem.W.cellsFrom_some _ _ _ (.inl q)⟩
  refine codeAny_call_function hr.depth (KX _ _ lk) rfl S.co S.gen rfl (PySem.W.codeRec_of KX hcd) (hb _ _ _ _ ?_)
  refine wpAny_newFunctionEnv_cells S.kind hkind fun env he s1 x => ?_
  subst he
  refine ⟨lim.keeps x.toInCall.keep, codeAny_func ?_⟩
  obtain ⟨t, ht, hq⟩ := hbody A outer s H vs Q E (hr.deeper _) hsp
  have I : Inv (cxOf CX P w K mg base N qual scope f cdv A outer s H E) [] (start N vs) H s1 := inv_start S hr.hd e0 hl r x
  refine wpAny_mono (ht [] s1 (start N vs) H _ I hq) (fun fl s' hs => ?_) fun e s' hs => hs
  have fin : ∀ {σ' : St} {H' : Hp} {v : V} {u : Value}, Inv (cxOf CX P w K mg base N qual scope f cdv A outer s H E) [] σ' H' s' → RelV v u → Q v H' → CE outer P w H s Q u s' :=
    fun {σ' H' v u} J rv q => ⟨v, H', J.os, J.bare, J.base, J.hok, rv, q⟩
  cases fl with
  | ret u =>
    obtain ⟨v, σ', H', J, rv, q⟩ := hs
    exact fin J rv q
  | next =>
    obtain ⟨σ', H', J, q⟩ := hs
    exact fin (v := V.non) (u := Value.none) J rfl q
  | brk =>
    obtain ⟨_, _, _, q⟩ := hs
    exact False.elim q
  | cont =>
    obtain ⟨_, _, _, q⟩ := hs
    exact False.elim q
end L2
namespace L2
open PySem PySem.Spec PyProof.Rows
section
variable {X : Cx} {x : Str} {p pos : Pos} {e : Expr} {es : List Expr} {t : TA} {id T : String} {r : List V → Hp → VK → Prop}
def tCB (r : List V → Hp → VK → Prop) (t : TA) : TE := fun σ H Q => t σ H fun vs H1 => r vs H1 Q
theorem pe_callB (hc : CallR X (.builtin id) r) (hg : Gl X x) (hm : X.mg x = none) (hv : bootBuiltins x = some (.builtin id)) (ha : PA X (e :: es) t) (hn : x ≠ "__name__" := by decide) (hdb : (x == ("__debug__" : Str)) = false := by decide)
    (he : starEach (e :: es) X.env = (false, eval e X.env) :: starEach es X.env := by rfl) (hpl : (backTo pos (starEach es X.env)).any (·.1) = false := by rfl) : PE X (.Call (.Name x p) (e :: es) [] pos) (tCB r t) := by
  intro pins s σ H Q I h
  refine wpAny_Call_Name_kw (ld_blt I hg hm hv ?_ hn hdb)
  exact PyProof.Rows.callWith_builtin1 (thn (ha pos pins s σ H _ I h) fun us s1 ⟨vs, H1, I1, r1, q1⟩ => hc pins s1 σ H1 vs us Q I1 r1 q1) he hpl
end
end L2
namespace HT
open PySem PyProof.Rows
def lexLt : List Int → List Int → Bool
  | [], [] => false
  | [], _ :: _ => true
  | _ :: _, [] => false
  | x :: xs, y :: ys => if x = y then lexLt xs ys else decide (x < y)
theorem lexLt_cons (x y : Int) (xs ys : List Int) : lexLt (x :: xs) (y :: ys) = if x = y then lexLt xs ys else decide (x < y) := rfl
theorem lexLt_nil_nil : lexLt [] [] = false := rfl
theorem lexLt_nil_cons (y : Int) (ys : List Int) : lexLt [] (y :: ys) = true := rfl
theorem lexLt_cons_nil (x : Int) (xs : List Int) : lexLt (x :: xs) [] = false := rfl
theorem eqAt_int (A : Around) (s : Shared) (a : Int) (t : Tok) (c : Int) (u : Tok) : ∃ e, SeqAt.EqAt A s (.int a t) (.int c u) e ∧ (e = true ↔ a = c) :=
  ⟨(a == c), SeqAt.EqAt.int_int a t c u, by simp⟩
section
open PySem.SeqAt
open PySem.AutoSeq1 (wpAny_loadPart')
open PySem.MeetsSeq PySem.MeetsSeq2 PySem.MeetsSeq3
end
section
variable {prog : Program} {w : World} {A : Around} {E : Value → Shared → Prop} {s : Shared}
def sIx (n d : Nat) : Option Int → Nat
  | none => d
  | some v => if v < 0 then (v + (n : Int)).toNat else min v.toNat n
theorem sIx_none (n d : Nat) : sIx n d none = d := rfl
theorem sIx_nat (n d k : Nat) : sIx n d (some (k : Int)) = min k n := by
  show (if (k : Int) < 0 then ((k : Int) + (n : Int)).toNat else min (k : Int).toNat n) = min k n
  rw [if_neg (by omega), Int.toNat_natCast]
end
end HT
namespace L2
open PySem PySem.Spec PyProof.Rows
abbrev TO := St → Hp → (Option Int → Hp → Prop) → Prop
def PO (X : Cx) (e : Option Expr) (t : TO) : Prop :=
  ∀ (pins : List (Addr × Obj)) (s : Shared) (σ : St) (H : Hp) (Q : Option Int → Hp → Prop), Inv X pins σ H s → t σ H Q →
    wpAny (model X.prog X.w) X.A (evalPart e X.env) (fun u s' => ∃ o H', Inv X pins σ H' s' ∧ IsPart u o ∧ Q o H') X.xe s
def tNoPart : TO := fun _ H Q => Q none H
def tPart (t : TE) : TO := fun σ H Q => t σ H fun x H1 => ∃ i, x = .int i ∧ Q (some i) H1
theorem intsAre_of {ns : List Int} : ∀ {us : List Value}, Vals (ns.map V.int) us → IntsAre us ns := by
  induction ns with
  | nil => intro us r; rw [List.map_nil] at r; cases r; exact .nil
  | cons n ns ih =>
    intro us r
    rw [List.map_cons] at r
    cases r with
    | cons r1 r2 =>
      obtain ⟨t, e⟩ := r1
      subst e
      exact .cons n t (ih r2)
section
variable {X : Cx} {e : Expr} {te : TE} {lo hi : Option Expr} {tl th : TO} {pos p2 : Pos}
theorem po_none : PO X none tNoPart := by
  intro pins s σ H Q I h
  rw [evalPart_none]
  exact wpAny_pure ⟨none, H, I, .none, h⟩
theorem po_some (h : PE X e te) : PO X (some e) (tPart te) := by
  intro pins s σ H Q I hw
  rw [evalPart_some]
  refine thn (h pins s σ H _ I hw) fun u s1 ⟨x, H1, I1, r1, q1⟩ => ?_
  obtain ⟨i, rfl, q⟩ := q1
  obtain ⟨t, rfl⟩ := r1
  exact ⟨some i, H1, I1, .int i t, q⟩
def SlR (X : Cx) (r : V → Option Int → Option Int → Hp → VK → Prop) : Prop :=
  ∀ (pins : List (Addr × Obj)) (s : Shared) (σ : St) (H : Hp) (x : V) (v vl vu : Value) (lo hi : Option Int) (sl : Addr) (Q : VK), Inv X pins σ H s → RelV x v → s.heap.IsSliceOf sl vl vu .none → IsPart vl lo → IsPart vu hi → r x lo hi H Q →
    ∃ T id, typeLookup (.type T) "__getitem__" = pure (some (.builtin id)) ∧ s.TypeIs v T ∧ wpAny (model X.prog X.w) X.A (getItem v (.ref sl)) (EP X pins σ Q) X.xe s
def tSl (r : V → Option Int → Option Int → Hp → VK → Prop) (te : TE) (tl th : TO) : TE := fun σ H Q => te σ H fun x H1 => tl σ H1 fun l H2 => th σ H2 fun u H3 => r x l u H3 Q
theorem pe_slice {r : V → Option Int → Option Int → Hp → VK → Prop} (hr : SlR X r) (he : PE X e te) (hl : PO X lo tl) (hu : PO X hi th) : PE X (.Subscript e (.Slice lo hi none p2) pos) (tSl r te tl th) := by
  intro pins s σ H Q I h
  refine Subscript_ (thn (he pins s σ H _ I h) fun v s1 ⟨x, H1, I1, r1, q1⟩ => ?_)
  refine wpAny_Slice (thn (hl pins s1 σ H1 _ I1 q1) fun vl s2 ⟨l, H2, I2, pl, q2⟩ => thn (hu pins s2 σ H2 _ I2 q2) fun vu s3 ⟨u, H3, I3, pu, q3⟩ => ?_)
  rw [evalPart_none]
  refine wpAny_pure ?_
  have I4 : Inv X pins σ H3 { s3 with heap := s3.heap.push { cls := .type "slice", data := .fields #[vl, vu, .none] } } := I3.kept (t' := s3.toks) fun b ob q => Heap.get?_push_of_some _ q
  obtain ⟨T, id, hT, ht, hg⟩ := hr pins { s3 with heap := s3.heap.push { cls := .type "slice", data := .fields #[vl, vu, .none] } } σ H3 x v vl vu l u s3.heap.objs.size Q I4 r1 (Heap.IsSliceOf.new ..) pl pu q3
  show wpAny (model X.prog X.w) X.A (subscriptTail e (.Slice lo hi none p2) v (.ref s3.heap.objs.size)) (EP X pins σ Q) X.xe { s3 with heap := s3.heap.push { cls := .type "slice", data := .fields #[vl, vu, .none] } }
  exact tail_any (ops := [.ref s3.heap.objs.size, v]) ht hT hg (by with_unfolding_all rfl)
def cutV (xs : List V) (lo hi : Option Int) : List V := (xs.drop (HT.sIx xs.length 0 lo)).take (HT.sIx xs.length xs.length hi - HT.sIx xs.length 0 lo)
theorem cutV_length (xs : List V) (lo hi : Option Int) : (cutV xs lo hi).length ≤ xs.length := by
  unfold cutV
  rw [List.length_take, List.length_drop]
  omega
end
end L2
namespace L2
open PySem PySem.Spec PyProof.Rows
def ixN (n : Nat) (i : Int) : Option Nat := if 0 ≤ i then (if i < n then some i.toNat else none) else if -(n : Int) ≤ i then some (i + n).toNat else none
def atI {α : Type} (xs : List α) (i : Int) : Option α := (ixN xs.length i).bind fun j => xs[j]?
theorem ixN_seq {n : Nat} {i : Int} {j : Nat} (h : ixN n i = some j) : seqIndex? i n = some j ∧ j < n ∧ -(n : Int) ≤ i ∧ i < n := by
  unfold ixN at h
  by_cases h0 : 0 ≤ i
  · rw [if_pos h0] at h
    by_cases h1 : i < n
    · rw [if_pos h1] at h
      have e : i.toNat = j := Option.some.inj h
      exact ⟨by rw [seqIndex_of h0 h1, e], by omega, by omega, h1⟩
    · rw [if_neg h1] at h; cases h
  · rw [if_neg h0] at h
    by_cases h1 : -(n : Int) ≤ i
    · rw [if_pos h1] at h
      have e : (i + n).toNat = j := Option.some.inj h
      exact ⟨by rw [seqIndex_neg (by omega) h1, e], by omega, h1, by omega⟩
    · rw [if_neg h1] at h; cases h
theorem atI_get {α : Type} {xs : List α} {i : Int} {v : α} (h : atI xs i = some v) : ∃ j, seqIndex? i xs.length = some j ∧ xs[j]? = some v ∧ j < xs.length ∧ -(xs.length : Int) ≤ i ∧ i < xs.length := by
  unfold atI at h
  cases e : ixN xs.length i with
  | none => rw [e] at h; cases h
  | some j =>
    rw [e] at h
    obtain ⟨h1, h2, h3, h4⟩ := ixN_seq e
    exact ⟨j, h1, h, h2, h3, h4⟩
theorem atI_nat {α : Type} {xs : List α} {j : Nat} {v : α} (h : xs[j]? = some v) : atI xs (j : Int) = some v := by
  have hj : j < xs.length := (List.getElem?_eq_some_iff.mp h).1
  have e : ixN xs.length (j : Int) = some j := by
    unfold ixN
    rw [if_pos (by omega), if_pos (by omega)]; simp
  unfold atI; rw [e]; exact h
def PlainIx (b : Expr) : Prop := ∀ o i, subscripted b false o i = operate [o, i] (getItem o i)
def IxR (X : Cx) (r : R2) : Prop :=
  ∀ (value slice : Expr) (pins : List (Addr × Obj)) (s : Shared) (σ : St) (H : Hp) (x y : V) (v u : Value) (Q : VK), Inv X pins σ H s → RelV x v → RelV y u → r x y H Q →
    subscripted slice false v u = operate [v, u] (getItem v u) → wpAny (model X.prog X.w) X.A (subscriptTail value slice v u) (EP X pins σ Q) X.xe s
def MtR (X : Cx) (id : String) (r : V → List V → Hp → VK → Prop) : Prop :=
  ∀ (pins : List (Addr × Obj)) (s : Shared) (σ : St) (H : Hp) (x : V) (xs : List V) (v : Value) (us : List Value) (Q : VK), Inv X pins σ H s → RelV x v → Vals xs us → r x xs H Q →
    wpAny (model X.prog X.w) X.A (call (.builtin id) (v :: us)) (EP X pins σ Q) X.xe s
section
variable {X : Cx} {a b : Expr} {ta tb : TE} {pos : Pos}
theorem pe_ix {r : R2} (hr : IxR X r) (ha : PE X a ta) (hb : PE X b tb) (hs : PlainIx b) : PE X (.Subscript a b pos) (tOp r ta tb) := by
  intro pins s σ H Q I h
  exact Subscript_ (binT ha hb I h fun v u s2 x y H2 I2 rx ry q => hr a b pins s2 σ H2 x y v u Q I2 rx ry q (hs _ _))
def rIxL (K : PySem.W.Frag) : R2 := fun x y H Q => ∃ p xs i v, x = .ref p ∧ y = .int i ∧ SqL K H p xs ∧ atI xs i = some v ∧ Q v H
def rIxT (K : PySem.W.Frag) : R2 := fun x y H Q => ∃ p xs i v, x = .ref p ∧ y = .int i ∧ SqT K H p xs ∧ atI xs i = some v ∧ Q v H
theorem ix_list : IxR X (rIxL X.K) := by
  intro value slice pins s σ H x y v u Q I rx ry h hs
  obtain ⟨p, xs, i, z, rfl, rfl, hq, he, q⟩ := h
  cases rx
  obtain ⟨t, rfl⟩ := ry
  obtain ⟨its, r, pl, hz⟩ := I.list hq
  obtain ⟨j, h1, h2, h3, h4, h5⟩ := atI_get he
  obtain ⟨w, ew, rw'⟩ := r.get h2
  have hl := r.length
  have hn := line63
  have fin : EP X pins σ Q w s := ⟨z, H, I, rw', q⟩
  by_cases h0 : 0 ≤ i
  · have hj : i.toNat = j := by
      rw [seqIndex_of h0 h5] at h1
      exact Option.some.inj h1
    exact item_listR pl.isList h0 (by omega) (by rw [hj]; simpa using ew) fin hs
  · have hj : (i + (its.toArray.size : Int)).toNat = j := by
      rw [seqIndex_neg (by omega) h4] at h1
      rw [List.size_toArray, ← hl]
      exact Option.some.inj h1
    exact subscriptTail_builtinR (x := w) pl.isList.typeIs slot_list_getitem.lookup
      (wpAny_getItem_list_neg (Q := fun r s' => r = w ∧ EP X pins σ Q r s') pl.isList (by omega) (by rw [List.size_toArray] <;> omega) (by omega) (by rw [hj]; simpa using ew) ⟨rfl, fin⟩) hs
theorem ix_tup : IxR X (rIxT X.K) := by
  intro value slice pins s σ H x y v u Q I rx ry h hs
  obtain ⟨p, xs, i, z, rfl, rfl, hq, he, q⟩ := h
  cases rx
  obtain ⟨t, rfl⟩ := ry
  obtain ⟨its, r, pl, hz⟩ := I.tuple hq
  obtain ⟨j, h1, h2, h3, h4, h5⟩ := atI_get he
  obtain ⟨w, ew, rw'⟩ := r.get h2
  have hl := r.length
  have hn := line63
  have fin : EP X pins σ Q w s := ⟨z, H, I, rw', q⟩
  exact subscriptTail_builtinR (x := w) pl.typeIs slot_tuple_getitem.lookup
    (getItem_tuple (j := j) (Q := fun r s' => r = w ∧ EP X pins σ Q r s') pl (by omega) (by omega) (by rw [List.size_toArray, ← hl]; exact h1) (by simpa using ew) ⟨rfl, fin⟩) hs
theorem mapSeq_set (its : List Value) (n j : Nat) (u : Value) : Obj.mapSeq (·.setIfInBounds j u) { cls := .type "list", data := .seq its.toArray n } = { cls := .type "list", data := .seq (its.set j u).toArray n } := by
  simp [Obj.mapSeq]
theorem Inv.lst {pins : List (Addr × Obj)} {σ : St} {H : Hp} {s : Shared} {p : Addr} {xs : List V} (I : Inv X pins σ H s) (h : H p = some (.lst xs)) :
    ∃ (its : List Value) (n : Nat), Vals xs its ∧ s.heap.get? p = some { cls := .type "list", data := .seq its.toArray n } ∧ xs.length ≤ sizeLine := by
  obtain ⟨z, its, n, r, e⟩ := I.hok p _ h
  exact ⟨its, n, r, e, z⟩
theorem Inv.lstUpd {pins : List (Addr × Obj)} {σ : St} {H : Hp} {s : Shared} {p : Addr} {xs ys : List V} {its its' : List Value} {n n' : Nat} {f : Obj → Obj} (I : Inv X pins σ H s) (h : H p = some (.lst xs))
    (ho : s.heap.get? p = some { cls := .type "list", data := .seq its.toArray n }) (hf : f { cls := .type "list", data := .seq its.toArray n } = { cls := .type "list", data := .seq its'.toArray n' }) (r : Vals ys its') (hz : ys.length ≤ sizeLine) (t : Nat) :
    Inv X pins σ (upd H p (.lst ys)) { s with heap := s.heap.update p f, toks := t } := by
  have e : (s.heap.update p f).get? p = some { cls := .type "list", data := .seq its'.toArray n' } := by
    rw [Heap.get?_update_self f ho (by rw [hf] <;> rfl), hf]
  refine I.write (x := p) (e := p) (by rw [h]; trivial) (.inl rfl) (fun b u hb q => (Heap.get?_update_other _ _ (Ne.symm hb)).trans q) ⟨_, e⟩ ?_
  exact ⟨hz, its', n', r, e⟩
def rSetL : V → V → V → Hp → (Hp → Prop) → Prop := fun o i v H Q => ∃ p xs k j, o = .ref p ∧ i = .int k ∧ H p = some (.lst xs) ∧ ixN xs.length k = some j ∧ Q (upd H p (.lst (xs.set j v)))
theorem set_list : PSet X rSetL := by
  intro pins s σ H o i v ov iv u Q I ro ri rv h
  obtain ⟨p, xs, k, j, rfl, rfl, hp, hj, q⟩ := h
  cases ro
  obtain ⟨t, rfl⟩ := ri
  obtain ⟨its, n, r, ho, hz⟩ := I.lst hp
  obtain ⟨h1, h2, h3, h4⟩ := ixN_seq hj
  have hl := r.length
  have hn := line63
  have I' : Inv X pins σ (upd H p (.lst (xs.set j v))) { s with heap := s.heap.update p (Obj.mapSeq (·.setIfInBounds j u)) } :=
    I.lstUpd hp ho (mapSeq_set its n j u) (r.set rv j) (by rw [List.length_set]; exact hz) s.toks
  by_cases h0 : 0 ≤ k
  · have hk : k.toNat = j := by
      rw [seqIndex_of h0 h4] at h1
      exact Option.some.inj h1
    exact PySem.W.ki_setAt ho h0 (by omega) (by rw [List.size_toArray, ← hl]; exact h4) (by rw [hk]; exact ⟨_, I', q⟩)
  · have hk : (k + (its.toArray.size : Int)).toNat = j := by
      rw [seqIndex_neg (by omega) h3] at h1
      rw [List.size_toArray, ← hl]
      exact Option.some.inj h1
    exact PySem.W.ki_setBack ho (by omega) (by rw [List.size_toArray, ← hl]; exact h3) (by omega) (by rw [hk]; exact ⟨_, I', q⟩)
theorem slice_bounds (lo hi : Option Int) (n : Nat) : (sliceBounds lo hi none n).1 = ((HT.sIx n 0 lo : Nat) : Int) ∧ (sliceBounds lo hi none n).2.1 = ((HT.sIx n n hi : Nat) : Int) ∧ (sliceBounds lo hi none n).2.2 = 1 := by
  refine ⟨?_, ?_, rfl⟩
  · cases lo with
    | none => simp [sliceBounds, HT.sIx]
    | some i =>
      simp only [sliceBounds, HT.sIx, Option.getD_none, show (1 : Int) > 0 by decide, if_true]
      by_cases h : i < 0
      · simp only [h, if_true] <;> omega
      · simp only [h, if_false] <;> omega
  · cases hi with
    | none => simp [sliceBounds, HT.sIx]
    | some i =>
      simp only [sliceBounds, HT.sIx, Option.getD_none, show (1 : Int) > 0 by decide, if_true]
      by_cases h : i < 0
      · simp only [h, if_true] <;> omega
      · simp only [h, if_false] <;> omega
theorem slicePick_cut (its : List Value) (lo hi : Option Int) : slicePick its.toArray lo hi none = ((its.drop (HT.sIx its.length 0 lo)).take (HT.sIx its.length its.length hi - HT.sIx its.length 0 lo)).toArray := by
  obtain ⟨h1, h2, h3⟩ := slice_bounds lo hi its.toArray.size
  unfold slicePick
  rw [h1, h2, h3]
  simp only [sliceRange_one, pick_run, List.size_toArray] <;> rfl
def rSlL (K : PySem.W.Frag) : V → Option Int → Option Int → Hp → VK → Prop := fun x lo hi H Q => ∃ a xs, x = .ref a ∧ SqL K H a xs ∧ ∀ p, H p = none → Q (.ref p) (upd H p (.lst (cutV xs lo hi)))
theorem sl_list : SlR X (rSlL X.K) := by
  intro pins s σ H x v vl vu lo hi sl Q I rx hs pl pu h
  obtain ⟨a, xs, rfl, hx, q⟩ := h
  cases rx
  obtain ⟨its, r, ht, hz⟩ := I.list hx
  have hlen := r.length
  refine ⟨"list", _, slot_list_getitem.lookup, ht.isList.typeIs, ?_⟩
  refine wpAny_getItem_list_slice ht.isList hs pl pu .none (by simp) ?_ (by rw [List.size_toArray] <;> omega)
  rw [slicePick_cut, ← hlen]
  refine ⟨.ref s.heap.objs.size, _, I.laid (t' := s.toks) (o := .lst (cutV xs lo hi)) (fun b ob q => Heap.get?_push_of_some _ q) (Nat.le_refl _) ?_, rfl, q _ (I.hok.fresh (Nat.le_refl _))⟩
  exact ⟨Nat.le_trans (cutV_length xs lo hi) hz, _, 0, (r.drop (HT.sIx xs.length 0 lo)).take (HT.sIx xs.length xs.length hi - HT.sIx xs.length 0 lo), Heap.get?_push_size _ rfl⟩
def flatV : V → Bool
  | .non => true
  | .bl _ => true
  | .int _ => true
  | .str _ => true
  | _ => false
def eqV : V → V → Bool
  | .non, .non => true
  | .bl a, .bl b => a == b
  | .bl a, .int b => (if a then 1 else 0) == b
  | .int a, .bl b => a == (if b then 1 else 0)
  | .int a, .int b => a == b
  | .str a, .str b => a == b
  | _, _ => false
theorem eqAt_V {A : Around} {s : Shared} {y x : V} {u v : Value} (ry : RelV y u) (rx : RelV x v) (fy : flatV y = true) (fx : flatV x = true) : SeqAt.EqAt A s u v (eqV y x) := by
  cases y with
  | non =>
    cases ry
    cases x with
    | non => cases rx; exact SeqAt.EqAt.same _
    | bl b => cases rx; exact SeqAt.EqAt.none_bool b
    | int b => obtain ⟨t, rfl⟩ := rx; exact SeqAt.EqAt.none_int b t
    | str b => obtain ⟨t, rfl⟩ := rx; exact SeqAt.EqAt.none_str b t
    | _ => exact absurd (show false = true from fx) Bool.false_ne_true
  | bl a =>
    cases ry
    cases x with
    | non => cases rx; exact SeqAt.EqAt.bool_none a
    | bl b => cases rx; exact SeqAt.EqAt.bool_bool a b
    | int b => obtain ⟨t, rfl⟩ := rx; exact SeqAt.EqAt.bool_int a b t
    | str b => obtain ⟨t, rfl⟩ := rx; exact SeqAt.EqAt.bool_str a b t
    | _ => exact absurd (show false = true from fx) Bool.false_ne_true
  | int a =>
    obtain ⟨t', rfl⟩ := ry
    cases x with
    | non => cases rx; exact SeqAt.EqAt.int_none a t'
    | bl b => cases rx; exact SeqAt.EqAt.int_bool a t' b
    | int b => obtain ⟨t, rfl⟩ := rx; exact SeqAt.EqAt.int_int a t' b t
    | str b => obtain ⟨t, rfl⟩ := rx; exact SeqAt.EqAt.int_str a t' b t
    | _ => exact absurd (show false = true from fx) Bool.false_ne_true
  | str a =>
    obtain ⟨t', rfl⟩ := ry
    cases x with
    | non => cases rx; exact SeqAt.EqAt.str_none a t'
    | bl b => cases rx; exact SeqAt.EqAt.str_bool a t' b
    | int b => obtain ⟨t, rfl⟩ := rx; exact SeqAt.EqAt.str_int a t' b t
    | str b => obtain ⟨t, rfl⟩ := rx; exact SeqAt.EqAt.str_str a t' b t
    | _ => exact absurd (show false = true from fx) Bool.false_ne_true
  | _ => exact absurd (show false = true from fy) Bool.false_ne_true
def eqU (x : V) (u : Value) : Bool := match u with
  | .none => eqV .non x
  | .bool b => eqV (.bl b) x
  | .int i _ => eqV (.int i) x
  | .str z _ => eqV (.str z) x
  | _ => false
theorem eqU_of {x y : V} {u : Value} (r : RelV y u) (f : flatV y = true) : eqU x u = eqV y x := by
  cases y with
  | non => cases r; rfl
  | bl b => cases r; rfl
  | int i => obtain ⟨t, rfl⟩ := r; rfl
  | str z => obtain ⟨t, rfl⟩ := r; rfl
  | _ => exact absurd (show false = true from f) Bool.false_ne_true
theorem any_eqU {x : V} : ∀ {xs : List V} {us : List Value}, Vals xs us → xs.all flatV = true → us.any (eqU x) = xs.any fun y => eqV y x
  | _, _, .nil, _ => rfl
  | y :: xs, u :: us, .cons r t, f => by
    rw [List.all_cons, Bool.and_eq_true] at f
    rw [List.any_cons, List.any_cons, eqU_of r f.1, any_eqU t f.2]
theorem mem_eqAt {A : Around} {s : Shared} {x : V} {v : Value} (rx : RelV x v) (fx : flatV x = true) : ∀ {xs : List V} {us : List Value}, Vals xs us → xs.all flatV = true → ∀ u ∈ us, SeqAt.EqAt A s u v (eqU x u)
  | _, _, .nil, _ => fun u hu => by cases hu
  | y :: xs, u :: us, .cons r t, f => fun u' hu => by
    rw [List.all_cons, Bool.and_eq_true] at f
    rcases List.mem_cons.mp hu with rfl | hu
    · rw [eqU_of r f.1]; exact eqAt_V r rx f.1 fx
    · exact mem_eqAt rx fx t f.2 u' hu
def inV (x : V) (xs : List V) : Bool := xs.any fun y => eqV y x
def rIn (K : PySem.W.Frag) (neg : Bool) : R2 := fun x y H Q => ∃ p xs, y = .ref p ∧ (SqL K H p xs ∨ SqT K H p xs) ∧ flatV x = true ∧ xs.all flatV = true ∧ Q (.bl (if neg then !inV x xs else inV x xs)) H
theorem op_in_seq : OpR X (compareOp .In) (rIn X.K false) := by
  intro pins s σ H x y v u Q I rx ry h
  obtain ⟨p, xs, rfl, hq, fx, fs, q⟩ := h
  cases ry
  rcases hq with hq | hq
  · obtain ⟨its, r, pl, hz⟩ := I.list hq
    refine SeqAt.in_listAt (eqU x) pl.isList (fun w hw => mem_eqAt rx fx r fs w (by simpa using hw)) ⟨.bl _, H, I, rfl, ?_⟩
    rw [show its.toArray.any (eqU x) = its.any (eqU x) by simp, any_eqU r fs]
    exact q
  · obtain ⟨its, r, pl, hz⟩ := I.tuple hq
    refine SeqAt.in_tupleAt (eqU x) pl (fun w hw => mem_eqAt rx fx r fs w (by simpa using hw)) ⟨.bl _, H, I, rfl, ?_⟩
    rw [show its.toArray.any (eqU x) = its.any (eqU x) by simp, any_eqU r fs]
    exact q
theorem call_len_seq : CallR X (.builtin "len") (fun xs H Q => ∃ p ys, xs = [.ref p] ∧ (SqL X.K H p ys ∨ SqT X.K H p ys) ∧ Q (.int ys.length) H) := by
  intro pins s σ H xs us Q I r h
  obtain ⟨p, ys, rfl, hq, q⟩ := h
  obtain ⟨u, rfl, rx⟩ := vals1 r
  cases rx
  have hn := line63
  rcases hq with hq | hq
  · obtain ⟨its, r', pl, hz⟩ := I.list hq
    have hlen := r'.length
    exact Calls.call_len_list pl.isList (by simp only [List.size_toArray] <;> omega) ⟨.int ys.length, H, I.tok _, ⟨s.toks + 1, by rw [List.size_toArray, hlen]⟩, q⟩
  · obtain ⟨its, r', pl, hz⟩ := I.tuple hq
    have hlen := r'.length
    exact len_tuple pl (by simp only [List.size_toArray] <;> omega) ⟨.int ys.length, H, I.tok _, ⟨s.toks + 1, by rw [List.size_toArray, hlen]⟩, q⟩
def tyV (K : PySem.W.Frag) (T : String) (x : V) (H : Hp) : Prop := match x with
  | .str _ => T = "str"
  | .int _ => T = "int"
  | .ref p => (T = "list" ∧ ∃ xs, SqL K H p xs) ∨ (T = "tuple" ∧ ∃ o, K.lookup p = some o ∧ o.cls = .type "tuple" ∧ o.dict = none) ∨
      (T = "dict" ∧ ((∃ kvs, H p = some (.dK kvs)) ∨ ∃ kvs, H p = some (.dT kvs))) ∨ (T = "set" ∧ ∃ S n, H p = some (.set S n))
  | _ => False
theorem tyV_is {pins : List (Addr × Obj)} {σ : St} {H : Hp} {s : Shared} {T : String} {x : V} {v : Value} (I : Inv X pins σ H s) (r : RelV x v) (ty : tyV X.K T x H) :
    s.TypeIs v T ∧ ∀ a, v = .ref a → ∃ ob, s.heap.get? a = some ob ∧ ob.dict = none := by
  cases x with
  | str z =>
    obtain ⟨t, rfl⟩ := r
    cases (show T = "str" from ty)
    exact ⟨typeIs_str s z t, fun _ e => nomatch e⟩
  | int i =>
    obtain ⟨t, rfl⟩ := r
    cases (show T = "int" from ty)
    exact ⟨typeIs_int s i t, fun _ e => nomatch e⟩
  | ref p =>
    cases r
    rcases ty with ⟨rfl, xs, hq⟩ | ⟨rfl, o, hk, hc, hd⟩ | ⟨rfl, hk⟩ | ⟨rfl, S, n, hk⟩
    · obtain ⟨its, _, pl, _⟩ := I.list hq
      refine ⟨pl.isList.typeIs, fun a e => ?_⟩
      cases e
      obtain ⟨o, n, e, c, hd, _⟩ := pl
      exact ⟨o, e, hd⟩
    · refine ⟨⟨o, I.kIn p o hk, hc⟩, fun a e => ?_⟩
      cases e
      exact ⟨o, I.kIn _ o hk, hd⟩
    · have z : ∃ o, s.heap.get? p = some o ∧ o.ExactDict := by
        rcases hk with ⟨kvs, hk⟩ | ⟨kvs, hk⟩
        · obtain ⟨_, _, _, _, o, _, _, e, ex, _⟩ := I.hok p _ hk
          exact ⟨o, e, ex⟩
        · obtain ⟨_, _, _, _, o, _, _, e, ex, _⟩ := I.hok p _ hk
          exact ⟨o, e, ex⟩
      obtain ⟨o, e, ex⟩ := z
      refine ⟨⟨o, e, ex.1⟩, fun a e2 => ?_⟩
      cases e2
      exact ⟨o, e, ex.2.1⟩
    · obtain ⟨o, _, _, _, e, ex, _⟩ := I.hok p _ hk
      refine ⟨⟨o, e, ex.1⟩, fun a e2 => ?_⟩
      cases e2
      exact ⟨o, e, ex.2.1⟩
  | _ => exact False.elim ty
def tBM (K : PySem.W.Frag) (T : String) (r : V → List V → Hp → VK → Prop) (to : TE) (t : TA) : TE := fun σ H Q => to σ H fun x H1 => tyV K T x H1 ∧ t σ H1 fun xs H2 => r x xs H2 Q
variable {o e : Expr} {es : List Expr} {to : TE} {t : TA} {name : Str} {apos cpos : Pos} {T id : String} {r : V → List V → Hp → VK → Prop}
theorem pe_bm (pa : PlainAttrs T) (slot : Slot T name id) (hty : typeOf (.builtin id) = pure (.type "method_descriptor")) (hm : MtR X id r) (ho : PE X o to) (ha : PA X (e :: es) t)
    (hbase : attributeBase o name X.env (eval o X.env) = eval o X.env := by rfl)
    (hfew : ((backTo cpos (starEach (e :: es) X.env)).all (fun x => !x.1) && (backToKw cpos (keywordEach [] X.env)).all (fun x => x.1.isSome)
      && decide ((e :: es).length + ([] : List Keyword).length + (if ([] : List Keyword).isEmpty then 0 else 1) < 30)) = true := by rfl)
    (hline : (apos.endLine == cpos.line) = true := by rfl) (hs : starEach (e :: es) X.env = (false, eval e X.env) :: starEach es X.env := by rfl) (hplain : (backTo cpos (starEach es X.env)).any (·.1) = false := by rfl) :
    PE X (.Call (.Attribute o name apos) (e :: es) [] cpos) (tBM X.K T r to t) := by
  intro pins s σ H Q I h
  refine wpAny_Call_method_late hbase hfew hline rfl (thn (ho pins s σ H _ I h) fun v s1 ⟨x, H1, I1, r1, ty, q1⟩ => ?_)
  obtain ⟨h1, h2⟩ := tyV_is I1 r1 ty
  refine ⟨T, id, pa, slot, hty, h1, h2, ?_⟩
  have hA := ha cpos pins s1 σ H1 _ I1 q1
  rw [hs] at hA ⊢
  refine Calls.callWith_builtin (by show (false || (backTo cpos (starEach es X.env)).any (·.1)) = false; rw [hplain] <;> rfl) (Calls.evalArgs_plain ?_)
  exact thn hA fun us s2 ⟨vs, H2, I2, r2, q2⟩ => hm pins s2 σ H2 x vs v us Q I2 r1 r2 q2
/- xs.append(e), list.index on a module's tuple .. are MtR facts of 06m -/
end
end L2
namespace L2
open PySem PySem.Spec PyProof.Rows
def MtM (X : Cx) (id : String) (r : V → List V → Hp → VK → Prop) : Prop :=
  ∀ (pins : List (Addr × Obj)) (s : Shared) (σ : St) (H : Hp) (x : V) (xs : List V) (v : Value) (us : List Value) (Q : VK), Inv X pins σ H s → RelV x v → Vals xs us → r x xs H Q →
    wpAny (model X.prog X.w) X.A (call (.builtin id) (v :: us)) (EP X pins σ Q) X.xe s
theorem Vals.one : ∀ {x : V} {us : List Value}, Vals [x] us → ∃ u, us = [u] ∧ RelV x u
  | _, _, .cons r .nil => ⟨_, rfl, r⟩
section
variable {X : Cx} {pins : List (Addr × Obj)} {σ : St} {H : Hp} {s : Shared} {l b : Addr} {xs ys zs : List V}
theorem Inv.lset {its its' : List Value} {n : Nat} {f : Array Value → Array Value} {t' : Nat} (I : Inv X pins σ H s) (hH : H l = some (.lst xs))
    (e : s.heap.get? l = some { cls := .type "list", data := .seq its.toArray n }) (hf : f its.toArray = its'.toArray) (hv : Vals ys its') (hz : ys.length ≤ sizeLine) :
    Inv X pins σ (upd H l (.lst ys)) { s with heap := s.heap.update l (Obj.mapSeq f), toks := t' } := by
  have q := PySem.IsL.update e f
  rw [hf] at q
  refine I.write (x := l) (e := l) (by rw [hH]; exact trivial) (.inl rfl) (fun b' u hb hu => (Heap.get?_update_other s.heap (Obj.mapSeq f) (Ne.symm hb)).trans hu) ⟨_, q⟩ ?_
  exact ⟨hz, its', _, hv, q⟩
theorem Inv.lnew {its : List Value} {t' : Nat} (I : Inv X pins σ H s) (hv : Vals ys its) (hz : ys.length ≤ sizeLine) :
    Inv X pins σ (upd H s.heap.objs.size (.lst ys)) { s with heap := s.heap.push { cls := .type "list", data := .seq its.toArray }, toks := t' } :=
  I.laid (fun _ _ q => Heap.get?_push_of_some _ q) (Nat.le_refl _) ⟨hz, its, 0, hv, Heap.get?_push_size _ rfl⟩
theorem Inv.fresh (I : Inv X pins σ H s) : H s.heap.objs.size = none := I.hok.fresh (Nat.le_refl _)
theorem Inv.lstM (I : Inv X pins σ H s) (hH : H l = some (.lst xs)) : xs.length ≤ sizeLine ∧ ∃ (its : List Value) (n : Nat), Vals xs its ∧ xs.length = its.length ∧ s.heap.get? l = some { cls := .type "list", data := .seq its.toArray n } := by
  obtain ⟨z, its, n, r, e⟩ := I.hok l _ hH
  exact ⟨z, its, n, r, r.length, e⟩
theorem notLongL {n : Nat} (h : n ≤ sizeLine) : Builtin.List.listTooLong n = false := by
  unfold Builtin.List.listTooLong
  exact decide_eq_false (by omega)
end
section
variable {X : Cx}
def rAppend : V → List V → Hp → VK → Prop := fun x vs H Q => ∃ l xs y, x = .ref l ∧ vs = [y] ∧ H l = some (.lst xs) ∧ xs.length < sizeLine ∧ Q .non (upd H l (.lst (xs ++ [y])))
theorem mt_append : MtM X "list.append" rAppend := by
  intro pins s σ H x vs v us Q I rx rv h
  obtain ⟨l, xs, y, rfl, rfl, hH, hz, q⟩ := h
  cases rx
  obtain ⟨u, rfl, ru⟩ := rv.one
  obtain ⟨z, its, n, r, hl, e⟩ := I.lstM hH
  refine call_meets F.slot_list_append ⟨_, e, rfl⟩ F.entry_list_append (F.args_list_append_2 _ _) (PySem.list_append l its.toArray n u (by rw [List.size_toArray]; omega)) ⟨e, ?_⟩
  refine ⟨.non, _, I.lset (its' := its ++ [u]) hH e (by simp) (r.append (.cons ru .nil)) ?_, rfl, q⟩
  rw [List.length_append, List.length_singleton]
  omega
def rExtend : V → List V → Hp → VK → Prop := fun x vs H Q => ∃ l b xs zs, x = .ref l ∧ vs = [.ref b] ∧ H l = some (.lst xs) ∧ H b = some (.lst zs) ∧ xs.length + zs.length ≤ sizeLine ∧ Q .non (upd H l (.lst (xs ++ zs)))
theorem mt_extend : MtM X "list.extend" rExtend := by
  intro pins s σ H x vs v us Q I rx rv h
  obtain ⟨l, b, xs, zs, rfl, rfl, hH, hB, hz, q⟩ := h
  cases rx
  obtain ⟨u, rfl, ru⟩ := rv.one
  cases ru
  obtain ⟨z, its, n, r, hl, e⟩ := I.lstM hH
  obtain ⟨z2, its2, n2, r2, hl2, e2⟩ := I.lstM hB
  have hsz : its.toArray.size + its2.toArray.size ≤ sizeLine := by rw [List.size_toArray, List.size_toArray]; omega
  have hlong : ¬ (!its.toArray.isEmpty && Builtin.List.listTooLong (its.toArray.size + its2.toArray.size)) = true := by
    rw [notLongL hsz, Bool.and_false]
    exact Bool.false_ne_true
  refine call_meets F.slot_list_extend ⟨_, e, rfl⟩ F.entry_list_extend (F.args_list_extend_2 _ _)
    (AutoSeq1.list_extend_list_list_0 l its.toArray n b its2.toArray n2 hlong (by rw [List.size_toArray]; omega) (by omega)) ⟨e, e2, ?_⟩
  refine ⟨.non, _, I.lset (its' := its ++ its2) hH e (by simp) (r.append r2) ?_, rfl, q⟩
  rw [List.length_append]
  omega
def rCat : R2 := fun x y H Q => ∃ l b xs zs, x = .ref l ∧ y = .ref b ∧ H l = some (.lst xs) ∧ H b = some (.lst zs) ∧ xs.length + zs.length ≤ sizeLine ∧ ∀ p, H p = none → Q (.ref p) (upd H p (.lst (xs ++ zs)))
theorem op_cat : OpR X (binaryOp .Add) rCat := by
  intro pins s σ H x y v u Q I rx ry h
  obtain ⟨l, b, xs, zs, rfl, rfl, hH, hB, hz, q⟩ := h
  cases rx
  cases ry
  obtain ⟨z, its, n, r, hl, e⟩ := I.lstM hH
  obtain ⟨z2, its2, n2, r2, hl2, e2⟩ := I.lstM hB
  refine PySem.P.add_list e e2 ?_ (by rw [List.size_toArray, List.size_toArray]; omega)
  have ea : its.toArray ++ its2.toArray = (its ++ its2).toArray := by simp
  rw [ea]
  exact ⟨.ref _, _, I.lnew (t' := s.toks) (r.append r2) (by rw [List.length_append]; omega), rfl, q _ I.fresh⟩
end
section
variable {prog : Program} {w : World} {A : Around} {E : Value → Shared → Prop} {s : Shared}
set_option maxRecDepth 100000 in
end
section
variable {X : Cx}
end
end L2
namespace L2
open PySem PySem.Spec PyProof.Rows
theorem Vals.ints : ∀ {ns : List Int} {us : List Value}, Vals (ns.map V.int) us → IntsAre us ns
  | [], us, h => by
    rw [List.map_nil] at h
    cases h
    exact IntsAre.nil
  | n :: ns, us, h => by
    rw [List.map_cons] at h
    cases h with
    | cons r t =>
      obtain ⟨k, rfl⟩ := r
      exact IntsAre.cons n k (Vals.ints t)
theorem Vals.ref1 {a : Addr} {us : List Value} (r : Vals [V.ref a] us) : us = [Value.ref a] := by
  cases r with
  | cons r t =>
    cases t
    cases r
    rfl
section
variable {prog : Program} {w : World} {A : Around} {E : Value → Shared → Prop} {s : Shared} {l : Addr} {its : List Value} {ns : List Int} {Q : Value → Shared → Prop}
theorem sum_raw (hh : A.handled = none) (hl : s.heap.IsList l its.toArray) (hi : IntsAre its ns)
    (h : ∀ h' tk t', (∀ b o, s.heap.get? b = some o → h'.get? b = some o) → Q (.int ns.sum t') { s with heap := h', toks := tk }) : wpAny (model prog w) A (call (.builtin "sum") [.ref l]) Q E s := by
  obtain ⟨xs, e⟩ := hi.allInts.items
  have hn : numsOf (intItems xs).toList = ns := by rw [← e]; exact hi.numsOf
  rw [nums_intItems] at hn
  rw [e] at hl
  refine PySem.sum_intListG hh hl fun h' tk t' hk => ?_
  have := h h' tk t' hk
  rw [preSum_eq, List.take_of_length_le (by simp), hn]; exact this
theorem max_raw (hh : A.handled = none) (hl : s.heap.IsList l its.toArray) (hi : IntsAre its ns) (hne : 0 < ns.length)
    (h : ∀ h' tk M t', (∀ b o, s.heap.get? b = some o → h'.get? b = some o) → M ∈ ns → (∀ a, a ∈ ns → a ≤ M) → Q (.int M t') { s with heap := h', toks := tk }) : wpAny (model prog w) A (call (.builtin "max") [.ref l]) Q E s := by
  obtain ⟨xs, e⟩ := hi.allInts.items
  have hn : numsOf (intItems xs).toList = ns := by rw [← e]; exact hi.numsOf
  rw [nums_intItems] at hn
  subst hn
  rw [e] at hl
  have hsz : 0 < xs.size := by simpa using hne
  refine PySem.max_intList hh hl hsz fun v h' tk hv hk => ?_
  obtain ⟨t, rfl⟩ := intItems_at hv
  obtain ⟨h1, h2⟩ := argBest_gt (numAt xs) (xs.size - 1)
  refine h h' tk _ t hk ?_ fun a ha => ?_
  · rw [numAt_eq]; exact PySem.getD_mem (by rw [List.length_map, Array.length_toList]; omega)
  · obtain ⟨j, hj, rfl⟩ := mem_getD ha
    rw [List.length_map, Array.length_toList] at hj
    rw [← numAt_eq]; exact h2 j (by omega)
theorem min_raw (hh : A.handled = none) (hl : s.heap.IsList l its.toArray) (hi : IntsAre its ns) (hne : 0 < ns.length)
    (h : ∀ h' tk M t', (∀ b o, s.heap.get? b = some o → h'.get? b = some o) → M ∈ ns → (∀ a, a ∈ ns → M ≤ a) → Q (.int M t') { s with heap := h', toks := tk }) : wpAny (model prog w) A (call (.builtin "min") [.ref l]) Q E s := by
  obtain ⟨xs, e⟩ := hi.allInts.items
  have hn : numsOf (intItems xs).toList = ns := by rw [← e]; exact hi.numsOf
  rw [nums_intItems] at hn
  subst hn
  rw [e] at hl
  have hsz : 0 < xs.size := by simpa using hne
  refine PySem.min_intList hh hl hsz fun v h' tk hv hk => ?_
  obtain ⟨t, rfl⟩ := intItems_at hv
  obtain ⟨h1, h2⟩ := argBest_lt (numAt xs) (xs.size - 1)
  refine h h' tk _ t hk ?_ fun a ha => ?_
  · rw [numAt_eq]; exact PySem.getD_mem (by rw [List.length_map, Array.length_toList]; omega)
  · obtain ⟨j, hj, rfl⟩ := mem_getD ha
    rw [List.length_map, Array.length_toList] at hj
    rw [← numAt_eq]; exact h2 j (by omega)
end
section
variable {X : Cx}
def rSum (K : PySem.W.Frag) : List V → Hp → VK → Prop := fun vs H Q => ∃ (a : Addr) (ns : List Int), vs = [V.ref a] ∧ SqL K H a (ns.map V.int) ∧ Q (.int ns.sum) H
def rMax (K : PySem.W.Frag) : List V → Hp → VK → Prop := fun vs H Q => ∃ (a : Addr) (ns : List Int), vs = [V.ref a] ∧ SqL K H a (ns.map V.int) ∧ 0 < ns.length ∧ ∀ m, m ∈ ns → (∀ y, y ∈ ns → y ≤ m) → Q (.int m) H
def rMin (K : PySem.W.Frag) : List V → Hp → VK → Prop := fun vs H Q => ∃ (a : Addr) (ns : List Int), vs = [V.ref a] ∧ SqL K H a (ns.map V.int) ∧ 0 < ns.length ∧ ∀ m, m ∈ ns → (∀ y, y ∈ ns → m ≤ y) → Q (.int m) H
theorem cr_sum (hc : X.calm = true) : CallR X (.builtin "sum") (rSum X.K) := by
  intro pins s σ H vs us Q I r h
  obtain ⟨a, ns, rfl, hs, q⟩ := h
  obtain ⟨its, rv, hl, _⟩ := I.list hs
  rw [Vals.ref1 r]
  exact sum_raw (I.ok.hd hc) hl.isList rv.ints fun h' tk t' hk => ⟨.int _, H, I.kept hk, ⟨_, rfl⟩, q⟩
theorem cr_max (hc : X.calm = true) : CallR X (.builtin "max") (rMax X.K) := by
  intro pins s σ H vs us Q I r h
  obtain ⟨a, ns, rfl, hs, hne, q⟩ := h
  obtain ⟨its, rv, hl, _⟩ := I.list hs
  rw [Vals.ref1 r]
  exact max_raw (I.ok.hd hc) hl.isList rv.ints hne fun h' tk m t' hk h1 h2 => ⟨.int _, H, I.kept hk, ⟨_, rfl⟩, q m h1 h2⟩
theorem cr_min (hc : X.calm = true) : CallR X (.builtin "min") (rMin X.K) := by
  intro pins s σ H vs us Q I r h
  obtain ⟨a, ns, rfl, hs, hne, q⟩ := h
  obtain ⟨its, rv, hl, _⟩ := I.list hs
  rw [Vals.ref1 r]
  exact min_raw (I.ok.hd hc) hl.isList rv.ints hne fun h' tk m t' hk h1 h2 => ⟨.int _, H, I.kept hk, ⟨_, rfl⟩, q m h1 h2⟩
end
section
variable {X : Cx}
def rIndex (K : PySem.W.Frag) : V → List V → Hp → VK → Prop := fun x xs H Q => ∃ (a : Addr) (ys : List V) (y : V) (j : Nat) (z : V), x = V.ref a ∧ xs = [y] ∧ SqL K H a ys ∧ flatV y = true ∧ ys.all flatV = true ∧ ys[j]? = some z ∧ eqV z y = true ∧
  (∀ (m : Nat) (z' : V), m < j → ys[m]? = some z' → eqV z' y = false) ∧ Q (.int (j : Nat)) H
theorem flat_at {ys : List V} (f : ys.all flatV = true) {j : Nat} {z : V} (h : ys[j]? = some z) : flatV z = true := List.all_eq_true.mp f z (List.mem_of_getElem? h)
theorem mt_index : MtR X "list.index" (rIndex X.K) := by
  intro pins s σ H x xs v us Q I rx rxs h
  obtain ⟨a, ys, y, j, z, rfl, rfl, hs, fy, fys, hz, hzj, hno, q⟩ := h
  cases rx
  cases rxs with
  | cons ry rt =>
    rename_i uy ut
    cases rt
    obtain ⟨its, rv, ⟨⟨cls, dd, data, sl⟩, n, ho, hc, hdn, hd⟩, hlen⟩ := I.list hs
    simp only at hc hd
    subst hc hd
    obtain ⟨u, hu, ru⟩ := rv.get hz
    obtain ⟨hjl, hje⟩ := List.getElem?_eq_some_iff.mp hu
    have hvl := rv.length
    have hj : j < its.toArray.size := by simpa using hjl
    have hsl := sizeLine_eq
    refine call_meets PySem.F.slot_list_index ⟨_, ho, rfl⟩ PySem.F.entry_list_index (PySem.F.args_list_index_2 _ _)
      (SeqAt.list_indexAt a its.toArray n dd sl uy (eqU y) j hj (by omega) ?_ ?_) ⟨ho, fun u' hu' => mem_eqAt ry fy rv fys u' (by simpa using hu'), ?_⟩
    · have e1 : its.toArray[j] = u := by simpa using hje
      rw [e1, eqU_of ru (flat_at fys hz)]
      exact hzj
    · intro m hm hmj
      have hml : m < its.length := by simpa using hm
      have hmy : m < ys.length := by omega
      have hy' : ys[m]? = some ys[m] := List.getElem?_eq_getElem hmy
      obtain ⟨u2, hu2, ru2⟩ := rv.get hy'
      obtain ⟨_, hme⟩ := List.getElem?_eq_some_iff.mp hu2
      have e1 : its.toArray[m] = u2 := by simpa using hme
      rw [e1, eqU_of ru2 (flat_at fys hy')]
      exact hno m _ hmj hy'
    · exact ⟨.int (j : Nat), H, I.tok _, ⟨_, rfl⟩, q⟩
end
section
variable {X : Cx}
end
section
variable {X : Cx}
end
mutual
inductive Dp (K : PySem.W.Frag) (H : Hp) : V → PyData → Prop
  | non : Dp K H .non .none
  | bl (b : Bool) : Dp K H (.bl b) (.bool b)
  | int (i : Int) : Dp K H (.int i) (.int i)
  | str (x : Str) : Dp K H (.str x) (.str x)
  | lst {a : Addr} {xs : List V} {ds : List PyData} : SqL K H a xs → DpAll K H xs ds → Dp K H (.ref a) (.list ds)
  | tup {a : Addr} {xs : List V} {ds : List PyData} : SqT K H a xs → DpAll K H xs ds → Dp K H (.ref a) (.tuple ds)
inductive DpAll (K : PySem.W.Frag) (H : Hp) : List V → List PyData → Prop
  | nil : DpAll K H [] []
  | cons {v : V} {vs : List V} {d : PyData} {ds : List PyData} : Dp K H v d → DpAll K H vs ds → DpAll K H (v :: vs) (d :: ds)
end
section
variable {X : Cx} {pins : List (Addr × Obj)} {σ : St} {H : Hp} {s : Shared}
mutual
theorem Dp.reads (I : Inv X pins σ H s) : ∀ (d : PyData) (v : V) (u : Value), Dp X.K H v d → RelV v u → ∃ as, Reads s.heap u d as
  | .none, _, _, h, r => by
    cases h
    cases r
    exact ⟨_, Reads.none⟩
  | .bool b, _, _, h, r => by
    cases h
    cases r
    exact ⟨_, Reads.bool b⟩
  | .int i, _, _, h, r => by
    cases h
    obtain ⟨t, rfl⟩ := r
    exact ⟨_, Reads.int i t⟩
  | .str x, _, _, h, r => by
    cases h
    obtain ⟨t, rfl⟩ := r
    exact ⟨_, Reads.str x t⟩
  | .list ds, _, _, h, r => by
    cases h with
    | lst hs ha =>
      cases r
      obtain ⟨its, rv, ⟨o, n, ho, hc, _, hd⟩, _⟩ := I.list hs
      obtain ⟨as, hr⟩ := Dp.readsAll I ds _ its ha rv
      exact ⟨_, Reads.list ho hc hd hr⟩
  | .tuple ds, _, _, h, r => by
    cases h with
    | tup hs ha =>
      cases r
      obtain ⟨its, rv, ⟨o, ho, hc, n, hd⟩, _⟩ := I.tuple hs
      obtain ⟨as, hr⟩ := Dp.readsAll I ds _ its ha rv
      exact ⟨_, Reads.tuple ho hc hd hr⟩
  | .dict _, _, _, h, _ => by cases h
theorem Dp.readsAll (I : Inv X pins σ H s) : ∀ (ds : List PyData) (vs : List V) (us : List Value), DpAll X.K H vs ds → Vals vs us → ∃ as, ReadsAll s.heap us ds as
  | [], _, _, h, r => by
    cases h
    cases r
    exact ⟨_, ReadsAll.nil⟩
  | d :: ds, _, _, h, r => by
    cases h with
    | cons h1 h2 =>
      cases r with
      | cons r1 r2 =>
        obtain ⟨as, q1⟩ := Dp.reads I d _ _ h1 r1
        obtain ⟨bs, q2⟩ := Dp.readsAll I ds _ _ h2 r2
        exact ⟨_, ReadsAll.cons q1 q2⟩
end
end
section
variable {X : Cx}
end
end L2
namespace L2
open PySem PySem.Spec PyProof.Rows
abbrev CellAt (h : Heap) (c : Addr) (v : Option Value) : Prop := h.IsCell c v
def relS (scope sc : Scope) : Scope :=
  { scope with names := scope.names.map fun (n, k) => if (k == .free && sc.kind == .function && sc.names.lookup n == some .cell) then (n, .cell) else (n, k) }
def cloFrom (cells : List (Str × Addr)) : List (Str × NameKind) → List (Str × Addr) → List (Str × Addr)
  | [], acc => acc
  | (n, k) :: r, acc => if k == .free then cloFrom cells r ((n, (cells.lookup n).getD 0) :: acc) else cloFrom cells r acc
theorem closure_loop (env : Env) (f : Str × NameKind → List (Str × Addr) → Sem (ForInStep (List (Str × Addr))))
    (hf : ∀ n k c, f (n, k) c = if k == .free then (do let a ← cellOf env n; pure (.yield ((n, a) :: c))) else pure (.yield c)) :
    ∀ (names : List (Str × NameKind)) (acc : List (Str × Addr)), (∀ y ∈ names, y.2 = .free → ∃ c, env.cells.lookup y.1 = some c) → forIn names acc f = pure (cloFrom env.cells names acc)
  | [], acc, _ => by rw [List.forIn_nil]; rfl
  | (n, k) :: r, acc, h => by
    rw [List.forIn_cons, hf]
    have ih := fun acc => closure_loop env f hf r acc fun y hy => h y (List.mem_cons_of_mem _ hy)
    unfold cloFrom
    by_cases hk : (k == NameKind.free) = true
    · rw [if_pos hk, if_pos hk]
      obtain ⟨c, hc⟩ := h (n, k) List.mem_cons_self (by simpa using hk)
      have e : cellOf env n = pure c := by unfold cellOf; rw [hc]
      rw [e]
      have e2 : (env.cells.lookup n).getD 0 = c := by rw [hc]; rfl
      rw [e2]
      exact ih _
    · rw [if_neg hk, if_neg hk]
      exact ih _
theorem closure_ok {scope : Scope} {env : Env} (h : ∀ y ∈ scope.names, y.2 = .free → ∃ c, env.cells.lookup y.1 = some c) : closureFor scope env = pure (cloFrom env.cells scope.names []) := by
  simp only [closureFor]
  rw [closure_loop env _ (fun n k c => rfl) scope.names [] h]
  rfl
theorem mem_lookup {α : Type} : ∀ {l : List (Str × α)} {n : Str} {c : α}, (n, c) ∈ l → ∃ c', l.lookup n = some c'
  | (k, v) :: r, n, c, h => by
    rw [List.lookup_cons]
    cases hb : n == k with
    | true => exact ⟨_, rfl⟩
    | false =>
      rcases List.mem_cons.mp h with e | h
      · cases e; simp at hb
      · exact mem_lookup h
theorem cloFrom_mem {cells : List (Str × Addr)} : ∀ {names : List (Str × NameKind)} {acc : List (Str × Addr)} {n : Str} {c : Addr}, (n, c) ∈ cloFrom cells names acc → (n, c) ∈ acc ∨ ((n, .free) ∈ names ∧ c = (cells.lookup n).getD 0)
  | [], _, _, _, h => .inl h
  | (m, k) :: r, acc, n, c, h => by
    unfold cloFrom at h
    split at h
    · rename_i hk
      have hk : k = .free := by simpa using hk
      rcases cloFrom_mem h with h | ⟨h1, h2⟩
      · rcases List.mem_cons.mp h with e | h
        · cases e; exact .inr ⟨hk ▸ List.mem_cons_self, rfl⟩
        · exact .inl h
      · exact .inr ⟨List.mem_cons_of_mem _ h1, h2⟩
    · rcases cloFrom_mem h with h | ⟨h1, h2⟩
      · exact .inl h
      · exact .inr ⟨List.mem_cons_of_mem _ h1, h2⟩
theorem cloFrom_acc {cells : List (Str × Addr)} : ∀ {names : List (Str × NameKind)} {acc : List (Str × Addr)} {p : Str × Addr}, p ∈ acc → p ∈ cloFrom cells names acc
  | [], _, _, h => h
  | (m, k) :: r, acc, p, h => by
    unfold cloFrom
    split
    · exact cloFrom_acc (List.mem_cons_of_mem _ h)
    · exact cloFrom_acc h
theorem cloFrom_has {cells : List (Str × Addr)} : ∀ {names : List (Str × NameKind)} {acc : List (Str × Addr)} {n : Str}, (n, .free) ∈ names → (n, (cells.lookup n).getD 0) ∈ cloFrom cells names acc
  | (m, k) :: r, acc, n, h => by
    unfold cloFrom
    rcases List.mem_cons.mp h with e | h
    · cases e
      exact cloFrom_acc List.mem_cons_self
    · split
      · exact cloFrom_has h
      · exact cloFrom_has h
theorem cells_mem : ∀ {names : List (Str × NameKind)} {h : Heap} {acc : List (Str × Addr)} {x : Str} {c : Addr}, (x, c) ∈ cellsFrom h.objs.size names acc →
    (x, c) ∈ acc ∨ ((x, .cell) ∈ names ∧ h.objs.size ≤ c ∧ CellAt (pushCells h names) c none)
  | [], _, _, _, _, h => .inl h
  | (n, k) :: r, h, acc, x, c, hm => by
    unfold cellsFrom at hm
    unfold pushCells
    split at hm
    · rename_i hk
      rw [if_pos hk]
      have hk : k = .cell := by simpa using hk
      rw [← Heap.size_push h { cls := .type "cell", data := .cell none }] at hm
      rcases cells_mem hm with hm | ⟨h1, h2, h3⟩
      · rcases List.mem_cons.mp hm with e | hm
        · cases e
          exact .inr ⟨hk ▸ List.mem_cons_self, Nat.le_refl _, _, pushCells_keeps r _ _ _ (Heap.get?_push_size _ rfl), rfl⟩
        · exact .inl hm
      · rw [Heap.size_push] at h2
        exact .inr ⟨List.mem_cons_of_mem _ h1, Nat.le_of_succ_le h2, h3⟩
    · rename_i hk
      rw [if_neg hk]
      rcases cells_mem hm with hm | ⟨h1, h2, h3⟩
      · exact .inl hm
      · exact .inr ⟨List.mem_cons_of_mem _ h1, h2, h3⟩
theorem cells_acc : ∀ {names : List (Str × NameKind)} {n : Nat} {acc : List (Str × Addr)} {p : Str × Addr}, p ∈ acc → p ∈ cellsFrom n names acc
  | [], _, _, _, h => h
  | (m, k) :: r, n, acc, p, h => by
    unfold cellsFrom
    split
    · exact cells_acc (List.mem_cons_of_mem _ h)
    · exact cells_acc h
theorem cells_has : ∀ {names : List (Str × NameKind)} {n : Nat} {acc : List (Str × Addr)} {x : Str}, (x, .cell) ∈ names → ∃ c, (x, c) ∈ cellsFrom n names acc
  | (m, k) :: r, n, acc, x, h => by
    unfold cellsFrom
    rcases List.mem_cons.mp h with e | h
    · cases e
      exact ⟨n, cells_acc List.mem_cons_self⟩
    · split
      · exact cells_has h
      · exact cells_has h
theorem cells_inj : ∀ {names : List (Str × NameKind)} {h : Heap} {acc : List (Str × Addr)} {x y : Str} {c : Addr}, (∀ p ∈ acc, p.2 < h.objs.size) → (∀ x y c, (x, c) ∈ acc → (y, c) ∈ acc → x = y) →
    (x, c) ∈ cellsFrom h.objs.size names acc → (y, c) ∈ cellsFrom h.objs.size names acc → x = y
  | [], _, _, _, _, _, _, hi, h1, h2 => hi _ _ _ h1 h2
  | (n, k) :: r, h, acc, x, y, c, hl, hi, h1, h2 => by
    unfold cellsFrom at h1 h2
    split at h1
    · rename_i hk
      rw [if_pos hk] at h2
      rw [← Heap.size_push h { cls := .type "cell", data := .cell none }] at h1 h2
      refine cells_inj (h := h.push _) (fun p hp => ?_) (fun x y c a b => ?_) h1 h2
      · rw [Heap.size_push]
        rcases List.mem_cons.mp hp with rfl | hp
        · exact Nat.lt_succ_self _
        · exact Nat.lt_succ_of_lt (hl p hp)
      · rcases List.mem_cons.mp a with e | a <;> rcases List.mem_cons.mp b with e' | b
        · cases e; cases e'; rfl
        · cases e; exact absurd (hl _ b) (Nat.lt_irrefl _)
        · cases e'; exact absurd (hl _ a) (Nat.lt_irrefl _)
        · exact hi _ _ _ a b
    · rename_i hk
      rw [if_neg hk] at h2
      exact cells_inj hl hi h1 h2
theorem newEnv_comp {M : Model} {A : Around} {E : Value → Shared → Prop} {s : Shared} {scope : Scope} {globals : Addr} {closure : List (Str × Addr)} {qual : Str} {func : Option Addr} {code : Value} {around : Env} {builtins : Addr} {Q : Env → Shared → Prop}
    (h : Q (newEnv scope s.heap.objs.size globals (cellsFrom (s.heap.objs.size + 1) scope.names closure) qual func code (some around) builtins)
      { s with heap := pushCells (s.heap.push { cls := .type "dict", data := .dict #[] }) scope.names }) :
    wpAny M A (newFunctionEnv scope globals closure [] qual func code (some around) builtins) Q E s := by
  simp only [newFunctionEnv, Option.isSome_some, if_true]
  refine wpAny_bind (wpAny_alloc ?_)
  refine wpAny_bind (wpAny_layCells _ (fun n k c => rfl) scope.names closure _ _ ?_)
  rw [show ({ s with heap := s.heap.push { cls := .type "dict", data := .dict #[] } } : Shared).heap.objs.size = s.heap.objs.size + 1 from Heap.size_push ..]
  rw [List.forIn_nil]
  exact wpAny_bind (wpAny_pure (wpAny_pure h))
theorem lookup_relS {sc : Scope} : ∀ {names : List (Str × NameKind)} {x : Str} {k : NameKind},
    (names.map fun (n, k) => if (k == NameKind.free && sc.kind == .function && sc.names.lookup n == some .cell) then (n, NameKind.cell) else (n, k)).lookup x = some k →
    ∃ k', names.lookup x = some k' ∧ (k = k' ∨ (k' = .free ∧ k = .cell))
  | [], _, _, h => by simp at h
  | (n, k₀) :: r, x, k, h => by
    have ih := @lookup_relS sc r x k
    have h' : List.lookup x ((if (k₀ == NameKind.free && sc.kind == .function && sc.names.lookup n == some .cell) = true then (n, NameKind.cell) else (n, k₀)) :: (r.map _)) = some k := h
    cases hx : x == n with
    | true =>
      simp only [List.lookup_cons, hx]
      by_cases hc : (k₀ == NameKind.free && sc.kind == .function && sc.names.lookup n == some .cell) = true
      · rw [if_pos hc] at h'
        simp only [List.lookup_cons, hx] at h'
        cases h'
        simp only [Bool.and_eq_true, beq_iff_eq] at hc
        exact ⟨k₀, rfl, .inr ⟨hc.1.1, rfl⟩⟩
      · rw [if_neg hc] at h'
        simp only [List.lookup_cons, hx] at h'
        cases h'
        exact ⟨_, rfl, .inl rfl⟩
    | false =>
      simp only [List.lookup_cons, hx]
      by_cases hc : (k₀ == NameKind.free && sc.kind == .function && sc.names.lookup n == some .cell) = true
      · rw [if_pos hc] at h'
        simp only [List.lookup_cons, hx] at h'
        exact ih h'
      · rw [if_neg hc] at h'
        simp only [List.lookup_cons, hx] at h'
        exact ih h'
structure BlkOk (N : List Str) (sc scope : Scope) (own : List (Str × Nat)) : Prop where
  kind : scope.kind = .function
  uniq : ∀ y ∈ scope.names, scope.names.lookup y.1 = some y.2
  ix : ∀ p ∈ own, N[p.2]? = some p.1
  free : ∀ y ∈ scope.names, y.2 = .free → sc.names.lookup y.1 = some .cell ∨ sc.names.lookup y.1 = some .free
  own : ∀ y ∈ scope.names, y.2 = .local ∨ y.2 = .cell → y.1 ∈ own.map (·.1) ∨ y.1 ∉ N
def wipe (σ : St) : List Nat → St
  | [] => σ
  | v :: vs => (wipe σ vs).set v none
theorem wipe_length (σ : St) : ∀ vs : List Nat, (wipe σ vs).length = σ.length
  | [] => rfl
  | v :: vs => by unfold wipe; rw [List.length_set, wipe_length σ vs]
theorem wipe_some {σ : St} {i : Nat} {x : V} : ∀ {vs : List Nat}, (wipe σ vs)[i]? = some (some x) → σ[i]? = some (some x) ∧ i ∉ vs
  | [], h => ⟨h, by simp⟩
  | v :: vs, h => by
    unfold wipe at h
    by_cases hi : v = i
    · subst hi
      by_cases hv : v < (wipe σ vs).length
      · rw [List.getElem?_set_self hv] at h; cases h
      · rw [List.getElem?_eq_none (by simpa using hv)] at h; cases h
    · rw [List.getElem?_set_ne hi] at h
      obtain ⟨h1, h2⟩ := wipe_some h
      exact ⟨h1, by simp only [List.mem_cons, not_or]; exact ⟨fun e => hi e.symm, h2⟩⟩
abbrev Cx.blk (X : Cx) (s : Shared) (H : Hp) (scope : Scope) (cenv : Env) (fp : List Addr) : Cx := { X with s_0 := s, H_0 := H, env := cenv, outer := X.stack, ex := fp, fn := fun x => scope.names.lookup x == some .cell, pn := [], xe := fun _ _ => False }
section
variable {X : Cx} {pins : List (Addr × Obj)} {σ : St} {H : Hp} {s : Shared}
theorem block_start {scope : Scope} {own : List (Str × Nat)} {fp : List Addr} (I : Inv X pins σ H s) (ok : BlkOk X.N X.env.scope scope own) (hN : X.N.Nodup) (hfp : ∀ b ∈ fp, FpOk X pins H b ∧ b < s.heap.objs.size) :
    Inv (X.blk s H scope (compEnvC scope (cellsFrom (s.heap.objs.size + 1) scope.names (cloFrom X.env.cells scope.names [])) s.heap.objs.size X.env) fp) [] (wipe σ (own.map (·.2))) H { s with heap := pushCells (s.heap.push { cls := .type "dict", data := .dict #[] }) scope.names } := by
  have hfree : ∀ y ∈ scope.names, y.2 = .free → ∃ c, X.env.cells.lookup y.1 = some c := fun y hy e => by
    rcases ok.free y hy e with k | k
    · exact I.ok.has _ (.inl k)
    · exact I.ok.has _ (.inr k)
  generalize hcenv : compEnvC scope (cellsFrom (s.heap.objs.size + 1) scope.names (cloFrom X.env.cells scope.names [])) s.heap.objs.size X.env = cenv
  have kp : ∀ b o, s.heap.get? b = some o → (pushCells (s.heap.push { cls := .type "dict", data := .dict #[] }) scope.names).get? b = some o := fun b o e => pushCells_keeps _ _ _ _ (Heap.get?_push_of_some _ e)
  have hL : cenv.locals = s.heap.objs.size := by rw [← hcenv]; rfl
  have hcl : cenv.cells = cellsFrom (s.heap.objs.size + 1) scope.names (cloFrom X.env.cells scope.names []) := by rw [← hcenv]; rfl
  have hsc : cenv.scope = relS scope X.env.scope := by rw [← hcenv]; rfl
  rw [← Heap.size_push s.heap { cls := .type "dict", data := .dict #[] }] at hcl
  have cm : ∀ {y c}, (y, c) ∈ cloFrom X.env.cells scope.names [] → X.env.cells.lookup y = some c ∧ c < s.heap.objs.size := fun {y c} hm => by
    rcases cloFrom_mem hm with hm | ⟨h1, rfl⟩
    · cases hm
    · obtain ⟨c, hc⟩ := hfree _ h1 rfl
      rw [hc]
      obtain ⟨w, z⟩ := I.cell _ _ hc
      exact ⟨rfl, z.lt⟩
  have mem : ∀ {y c}, cenv.cells.lookup y = some c → (X.env.cells.lookup y = some c ∧ c < s.heap.objs.size) ∨ (s.heap.objs.size + 1 ≤ c ∧ CellAt (pushCells (s.heap.push { cls := .type "dict", data := .dict #[] }) scope.names) c none) := fun {y c} e => by
    rw [hcl] at e
    rcases cells_mem (PySem.mem_of_lookup e) with hm | ⟨_, h2, h3⟩
    · exact .inl (cm hm)
    · rw [Heap.size_push] at h2; exact .inr ⟨h2, h3⟩
  have look : ∀ {y}, scope.names.lookup y = some .free → ∃ c, cenv.cells.lookup y = some c ∧ X.env.cells.lookup y = some c := fun {y} hl => by
    have hy : (y, NameKind.free) ∈ scope.names := PySem.mem_of_lookup hl
    obtain ⟨c', e'⟩ := mem_lookup (cells_acc (names := scope.names) (n := (s.heap.push { cls := .type "dict", data := .dict #[] }).objs.size) (cloFrom_has (cells := X.env.cells) (acc := []) hy))
    rw [← hcl] at e'
    refine ⟨c', e', ?_⟩
    rw [hcl] at e'
    rcases cells_mem (PySem.mem_of_lookup e') with hm | ⟨h1, _, _⟩
    · exact (cm hm).1
    · have := ok.uniq _ h1
      rw [hl] at this; cases this
  have okB : (X.blk s H scope cenv fp).Ok := by
    refine ⟨I.ok.mod, by show cenv.scope.kind = _; rw [hsc]; exact ok.kind, by show cenv.globals = _; rw [← hcenv]; exact I.ok.glob, by show cenv.builtins = _; rw [← hcenv]; exact I.ok.blt, by show s.heap.objs.size ≤ cenv.locals; rw [hL]; exact Nat.le_refl _,
      fun y z c e1 e2 => ?_, fun y hy => ?_, fun y c z e => ?_, I.ok.hd, I.ok.frames, .inl rfl, fun b hb => ⟨?_, fun y c e z => ?_⟩, I.bs, Nat.le_trans I.ok.bsz I.sz, fun b o e hb => ?_, fun b hb z => ?_, I.stack, I.stkFree⟩
    · have e1 : cenv.cells.lookup y = some c := e1
      have e2 : cenv.cells.lookup z = some c := e2
      rw [hcl] at e1 e2
      refine cells_inj (fun p hp => ?_) (fun y z c a b => I.ok.inj y z c (cm a).1 (cm b).1) (PySem.mem_of_lookup e1) (PySem.mem_of_lookup e2)
      rw [Heap.size_push]
      exact Nat.lt_succ_of_lt (cm (y := p.1) (c := p.2) hp).2
    · show ∃ c, cenv.cells.lookup y = some c
      have key : ∀ k, cenv.kindOf y = some k → (k = .cell ∨ k = .free) → ∃ c, cenv.cells.lookup y = some c := fun k hk hk' => by
        unfold Env.kindOf at hk
        rw [hsc] at hk
        obtain ⟨k', e, r⟩ := lookup_relS hk
        have : k' = .cell ∨ k' = .free := by
          rcases r with rfl | ⟨rfl, _⟩
          · exact hk'
          · exact .inr rfl
        rcases this with rfl | rfl
        · obtain ⟨c, hm⟩ := cells_has (n := (s.heap.push { cls := .type "dict", data := .dict #[] }).objs.size) (acc := cloFrom X.env.cells scope.names []) (PySem.mem_of_lookup e)
          obtain ⟨c', e'⟩ := mem_lookup hm
          exact ⟨c', by rw [hcl]; exact e'⟩
        · obtain ⟨c, h1, _⟩ := look e
          exact ⟨c, h1⟩
      rcases hy with hy | hy
      · exact key _ hy (.inl rfl)
      · exact key _ hy (.inr rfl)
    · have z : (scope.names.lookup y == some NameKind.cell) = true := z
      have z : scope.names.lookup y = some .cell := by simpa using z
      have e : cenv.cells.lookup y = some c := e
      rw [hcl] at e
      rcases cells_mem (PySem.mem_of_lookup e) with hm | ⟨_, h2, _⟩
      · rcases cloFrom_mem hm with hm | ⟨h1, _⟩
        · cases hm
        · have q := ok.uniq _ h1
          rw [z] at q; cases q
      · rw [Heap.size_push] at h2
        exact Nat.le_of_succ_le h2
    · show b ≠ cenv.locals
      rw [hL]; exact Nat.ne_of_lt (hfp b hb).2
    · have e : cenv.cells.lookup y = some c := e
      rcases mem e with ⟨h1, _⟩ | ⟨h1, _⟩
      · exact (hfp b hb).1.2.2.2.2.1 y c h1 z
      · have h2 : s.heap.objs.size + 1 ≤ b := by rw [← z]; exact h1
        exact absurd (Nat.lt_of_lt_of_le (hfp b hb).2 (Nat.le_of_succ_le h2)) (Nat.lt_irrefl _)
    · rcases (hfp b hb).1.2.2.2.1 with z | z
      · exact I.ok.noex b o e z
      · exact absurd (Nat.lt_of_lt_of_le (Heap.lt_size e) (Nat.le_trans I.ok.bsz z)) (Nat.lt_irrefl _)
    · rcases List.mem_cons.mp (I.stkSub b z) with z | z
      · exact (hfp b hb).1.2.1 z
      · exact (hfp b hb).1.2.2.1 z
  refine ⟨okB, rfl, I.bare, Un.kept kp, ⟨fun _ => none, ?_, fun i y av e1 e2 e3 => ?_⟩, fun y c e => ?_, ?_, fun y c e => ?_, fun p hp => ?_, I.hok.kept kp, by rw [wipe_length]; exact I.len⟩
  · show Heap.Ns _ cenv.locals _
    rw [hL]
    exact Heap.Ns.keeps (Heap.Ns.new ..) fun b o e => pushCells_keeps _ _ _ _ e
  · obtain ⟨e2, hne⟩ := wipe_some e2
    have hfr : scope.names.lookup y = some .free ∧ (cenv.kindOf y = some .cell ∨ cenv.kindOf y = some .free) := by
      have key : ∀ k, cenv.scope.names.lookup y = some k → k = .local ∨ k = .cell ∨ k = .free → scope.names.lookup y = some .free ∧ (cenv.kindOf y = some .cell ∨ cenv.kindOf y = some .free) := fun k hk hk' => by
        have hk0 := hk
        rw [hsc] at hk
        obtain ⟨k', e, r⟩ := lookup_relS hk
        have no : ¬ (k' = .local ∨ k' = .cell) := fun hh => by
          rcases ok.own _ (PySem.mem_of_lookup e) hh with e' | e'
          · obtain ⟨p, hp, hpy⟩ := List.mem_map.mp e'
            have e3 := ok.ix p hp
            have : p.1 = y := hpy
            rw [this] at e3
            exact hne (List.mem_map.mpr ⟨p, hp, nodup_ix hN e3 e1⟩)
          · exact e' (List.mem_of_getElem? e1)
        rcases r with rfl | ⟨rfl, rfl⟩
        · rcases hk' with rfl | rfl | rfl
          · exact absurd (.inl rfl) no
          · exact absurd (.inr rfl) no
          · exact ⟨e, .inr hk0⟩
        · exact ⟨e, .inl hk0⟩
      have e3 : Vis cenv.scope y := e3
      rcases e3 with e3 | e3 | e3
      · exact key _ e3 (.inl rfl)
      · exact key _ e3 (.inr (.inl rfl))
      · exact key _ e3 (.inr (.inr rfl))
    obtain ⟨m, hn, hl⟩ := I.loc
    have hvis : Vis X.env.scope y := (ok.free _ (PySem.mem_of_lookup hfr.1) rfl).elim (fun k => .inr (.inl k)) (fun k => .inr (.inr k))
    obtain ⟨w, r, q⟩ := hl i y av e1 e2 hvis
    refine ⟨w, r, .inr ⟨hfr.2, ?_⟩⟩
    obtain ⟨c, h1, h2⟩ := look hfr.1
    rcases q with ⟨k, _⟩ | ⟨_, c', e', z⟩
    · have k : X.env.scope.names.lookup y = some .local := k
      rcases ok.free _ (PySem.mem_of_lookup hfr.1) rfl with k' | k' <;> rw [show X.env.scope.names.lookup y = _ from k'] at k <;> cases k
    · rw [h2] at e'; cases e'
      exact ⟨c, h1, z.keeps kp⟩
  · have e : cenv.cells.lookup y = some c := e
    rcases mem e with ⟨h1, _⟩ | ⟨_, z⟩
    · obtain ⟨w, z⟩ := I.cell y c h1
      exact ⟨w, z.keeps kp⟩
    · exact ⟨_, z⟩
  · show H cenv.locals = none
    rw [hL]; exact I.hok.fresh (Nat.le_refl _)
  · have e : cenv.cells.lookup y = some c := e
    rcases mem e with ⟨h1, _⟩ | ⟨h1, _⟩
    · exact I.freeC y c h1
    · exact I.hok.fresh (Nat.le_of_succ_le h1)
  · exact absurd (show p ∈ ([] : List (Addr × Obj)) ++ [] from hp) (by simp)
theorem app_ok {E : Value → Shared → Prop} {D : Addr} {xs : List V} {y : V} {v : Value} {Q : Value → Shared → Prop} (I : Inv X pins σ H s) (hD : H D = some (.lst xs)) (hz : xs.length < sizeLine) (r : RelV y v)
    (h : ∀ s', Inv X pins σ (upd H D (.lst (xs ++ [y]))) s' → Q .none s') : wpAny (model X.prog X.w) X.A (call (.builtin "list.append") [.ref D, v]) Q E s := by
  obtain ⟨hz', its, n, ri, e⟩ := I.hok D _ hD
  have hl := ri.length
  refine append_at (hsz := by rw [List.size_toArray]; omega) e fun h' sb ho' => ?_
  refine h { s with heap := h' } (I.write (t' := s.toks) (by rw [hD]; trivial) (.inl rfl) (fun b u hb q => (sb.2 b hb).trans q) ⟨_, ho'⟩ ⟨by rw [List.length_append]; exact hz, its ++ [v], n + 1, ri.append (.cons r .nil), ?_⟩)
  rw [ho']
  simp
def PTs (X : Cx) (ifs : List Expr) (t : TT) : Prop :=
  ∀ (pins : List (Addr × Obj)) (s : Shared) (σ : St) (H : Hp) (Q : Bool → Hp → Prop), Inv X pins σ H s → t σ H Q →
    wpAny (model X.prog X.w) X.A (forIn ifs true fun c r => if r = true then do let ok ← isTrue c X.env (eval c X.env); pure (ForInStep.yield ok) else pure (ForInStep.yield r)) (TP X pins σ Q) X.xe s
def tYes : TT := fun _ H Q => Q true H
theorem pts_nil : PTs X [] tYes := fun _ _ _ H _ I h => wpAny_tests_nil ⟨H, I, h⟩
theorem pts_one {c : Expr} {t : TT} (h : PT X c t) : PTs X [c] t := fun pins s σ H Q I hw => wpAny_tests_one (h pins s σ H Q I hw)
end
theorem thnF {α : Type} {t : Sem α} {Q Q' : α → Shared → Prop} {M : Model} {A : Around} {E : Value → Shared → Prop} {s : Shared} (h : wpAny M A t Q (fun _ _ => False) s) (hQ : ∀ a s, Q a s → Q' a s) : wpAny M A t Q' E s := wpAny_mono h hQ fun _ _ z => False.elim z
theorem compLoop_any {prog : Program} {w : World} {A : Around} {R : Result → Shared → Prop} {s : Shared} {elt target iter : Expr} {ifs : List Expr} {scope : Scope} {pos : Pos} {it acc : Value} {env : Env} (I : Nat → Shared → Prop)
    (turn : ∀ n s, I n s → wpAny (model prog w) A (pyNext it) (fun r s₁ => match r with
      | none => R (.ok .next) s₁
      | some v => wpAny (model prog w) A (letOwnedTupleGo target it v) (fun _ s₁' => wpAny (model prog w) A (assign target env v) (fun _ s₂ =>
          wpAny (model prog w) A (forIn ifs true fun c r => if r = true then do let ok ← isTrue c env (eval c env); pure (ForInStep.yield ok) else pure (ForInStep.yield r)) (fun ok s₃ =>
            if ok = true then wpAny (model prog w) A (eval elt env) (fun x s₄ =>
              wpAny (model prog w) A (call (.builtin "list.append") [acc, x]) (fun _ s₅ => ∃ m, m < n ∧ I m s₅) (notedBy (model prog w) A env fun e s' => R (.error e) s') s₄) (notedBy (model prog w) A env fun e s' => R (.error e) s') s₃
            else ∃ m, m < n ∧ I m s₃) (notedBy (model prog w) A env fun e s' => R (.error e) s') s₂) (notedBy (model prog w) A env fun e s' => R (.error e) s') s₁') (notedBy (model prog w) A env fun e s' => R (.error e) s') s₁) (notedBy (model prog w) A env fun e s' => R (.error e) s') s)
    (n : Nat) (h : I n s) :
    codeAny (model prog w) A (.compLoop (.ListComp elt [⟨target, iter, ifs, 0⟩] scope pos) 0 it acc env) R s := by
  refine codeAny_loop rfl I (fun n s hI => ?_) n h
  show wpAny _ A ((compTurn (.ListComp elt [⟨target, iter, ifs, 0⟩] scope pos) 0 it acc env).onRaise (fun x => do noteFrame x env; theTreesLotGoes x)) _ _ s
  refine wpAny_noted ?_
  rw [compTurn_list]
  refine wpAny_bind (wpAny_standAt (wpAny_bind (wpAny_mono (turn n s hI) (fun r s₁ h₁ => ?_) fun _ _ h' => h')))
  cases r with
  | none => exact wpAny_pure h₁
  | some v =>
    refine wpAny_bind (wpAny_mono h₁ (fun _ s₁' h₁' => ?_) fun _ _ h' => h')
    refine wpAny_bind (wpAny_mono h₁' (fun _ s₂ h₂ => wpAny_bind (wpAny_mono h₂ (fun ok s₃ h₃ => ?_) fun _ _ h' => h')) fun _ _ h' => h')
    cases ok with
    | false => exact wpAny_pure ⟨rfl, h₃⟩
    | true =>
      exact wpAny_bind (wpAny_bind (wpAny_mono h₃ (fun x s₄ h₄ => wpAny_bind (wpAny_mono h₄ (fun _ s₅ h₅ => wpAny_pure (wpAny_pure ⟨rfl, h₅⟩)) fun _ _ h' => h')) fun _ _ h' => h'))
section
variable {X : Cx}
def tLc (wi : TI) (g : TG) (tt : TT) (te : TE) (vs : List Nat) : TE := fun σ H Q => wi σ H fun J H1 => ∀ D, H1 D = none → ∃ W : Nat → Nat → Hp → Prop, (∃ m, W 0 m (upd H1 D (.lst []))) ∧ ∀ i m H, W i m H →
  (J.stop i H ∧ Q (.ref D) H) ∨ (J.go i H ∧ ∃ Nx : Hp → Prop, (∀ H', Nx H' → ∃ m', m' < m ∧ W (i + 1) m' H') ∧ ∀ x H', J.yld i H x H' → g x (wipe σ vs) H' fun σ2 H2 => wipe σ2 vs = wipe σ vs ∧ tt σ2 H2 fun b H3 =>
    if b = true then te σ2 H3 fun y H4 => ∃ acc, H4 D = some (.lst acc) ∧ acc.length < sizeLine ∧ Nx (upd H4 D (.lst (acc ++ [y]))) else Nx H3)
theorem lc_core {pins : List (Addr × Obj)} {s : Shared} {σ : St} {H : Hp} {Q : VK} {elt tg iter : Expr} {ifs : List Expr} {scope : Scope} {own : List (Str × Nat)} {pos pos' : Pos} {wi : TI} {g : TG} {tt : TT} {te : TE} {use : Option (Value → Sem Unit)} {Qf : Value → Shared → Prop}
    (hc : X.calm = true) (hN : X.N.Nodup) (I : Inv X pins σ H s) (hi : PI X tg iter wi) (ok : BlkOk X.N X.env.scope scope own)
    (hg : ∀ (s : Shared) (H : Hp) (C : Addr) (cl : List (Str × Addr)) (fp : List Addr), PG (X.blk s H scope (compEnvC scope cl C X.env) fp) tg g) (ht : ∀ (s : Shared) (H : Hp) (C : Addr) (cl : List (Str × Addr)) (fp : List Addr), PTs (X.blk s H scope (compEnvC scope cl C X.env) fp) ifs tt)
    (he : ∀ (s : Shared) (H : Hp) (C : Addr) (cl : List (Str × Addr)) (fp : List Addr), PE (X.blk s H scope (compEnvC scope cl C X.env) fp) elt te) (hs : ∀ x, foldedSetIterable iter X.env x = pure x)
    (h : tLc wi g tt te (own.map (·.2)) σ H Q)
    (hRR : ∀ D C s' m H', Inv X pins σ H' s' → Q (.ref D) H' → s'.heap.Ns C m → FpOk X pins H' C → compPost (model X.prog X.w) X.A X.xe use Qf (.ref D) C (.ok .next) s') :
    wpAny (model X.prog X.w) X.A (comprehension (.ListComp elt [⟨tg, iter, ifs, 0⟩] scope pos) scope X.env pos' (newList []) false (eval iter X.env) use) Qf X.xe s := by
  have hfree : ∀ y ∈ scope.names, y.2 = .free → ∃ c, X.env.cells.lookup y.1 = some c := fun y hy e => by
    rcases ok.free y hy e with k | k
    · exact I.ok.has _ (.inl k)
    · exact I.ok.has _ (.inr k)
  refine wpAny_comprehension_free (use := use) rfl hs (closure_ok hfree) ok.kind (fun y hy e => by rw [ok.uniq y hy, e])
    (thn (hi pins s σ H _ I h) fun xv s1 hx => thn hx fun itv s2 h2 => ?_)
  obtain ⟨it, fp, tn, J, H2, e, I2, T, st2, f2, q⟩ := h2
  subst e
  refine wpAny_newObj_type (newEnv_comp ?_) (by show 0 ≤ sizeLine; decide)
  generalize hD : s2.heap.objs.size = D
  have hDn : H2 D = none := I2.hok.fresh (Nat.le_of_eq hD)
  obtain ⟨W, ⟨m0, w0⟩, turn⟩ := q D hDn
  generalize hs3 : ({ s2 with heap := s2.heap.push { cls := .type "list", data := .seq ([] : List Value).toArray } } : Shared) = s3
  have I3 : Inv X pins σ (upd H2 D (.lst [])) s3 := by
    rw [← hs3]
    refine I2.laid (t' := s2.toks) (fun b o e => Heap.get?_push_of_some _ e) (Nat.le_of_eq hD) ⟨Nat.zero_le _, [], 0, .nil, ?_⟩
    rw [← hD]
    exact Heap.get?_push_size _ rfl
  have h3 : s3.heap = s2.heap.push { cls := .type "list", data := .seq ([] : List Value).toArray } := by rw [← hs3]
  have sz : ∀ b ∈ fp, b < s2.heap.objs.size := fun b hb => by
    obtain ⟨o, e, _⟩ := T.obj _ _ st2 b hb
    exact Heap.lt_size e
  have f3 : ∀ b ∈ fp, FpOk X pins (upd H2 D (.lst [])) b ∧ b < s3.heap.objs.size := fun b hb => by
    have hlt := sz b hb
    refine ⟨⟨?_, (f2 b hb).2⟩, by rw [h3, Heap.size_push]; exact Nat.lt_succ_of_lt hlt⟩
    rw [upd_ne (by rw [← hD]; exact Nat.ne_of_lt hlt)]
    exact (f2 b hb).1
  have st3 : tn 0 s3.heap := T.keep _ _ _ st2 fun b _ o e => by rw [h3]; exact Heap.get?_push_of_some _ e
  have I4 := block_start I3 ok hN f3
  have pg := hg s3 (upd H2 D (.lst [])) s3.heap.objs.size (cellsFrom (s3.heap.objs.size + 1) scope.names (cloFrom X.env.cells scope.names [])) fp
  have pt := ht s3 (upd H2 D (.lst [])) s3.heap.objs.size (cellsFrom (s3.heap.objs.size + 1) scope.names (cloFrom X.env.cells scope.names [])) fp
  have pe := he s3 (upd H2 D (.lst [])) s3.heap.objs.size (cellsFrom (s3.heap.objs.size + 1) scope.names (cloFrom X.env.cells scope.names [])) fp
  show codeAny _ _ (.compStart (.ListComp elt [⟨tg, iter, ifs, 0⟩] scope pos) 0 (.ref it) (.ref D) (compEnvC scope (cellsFrom (s3.heap.objs.size + 1) scope.names (cloFrom X.env.cells scope.names [])) s3.heap.objs.size X.env)) (compPost (model X.prog X.w) X.A X.xe use Qf (.ref D) s3.heap.objs.size) { s3 with heap := pushCells (s3.heap.push { cls := .type "dict", data := .dict #[] }) scope.names }
  have nfp : ∀ b ∈ fp, (upd H2 D (.lst [])) b = none := fun b hb => (f3 b hb).1.1
  generalize hce : compEnvC scope (cellsFrom (s3.heap.objs.size + 1) scope.names (cloFrom X.env.cells scope.names [])) s3.heap.objs.size X.env = ce at I4 pg pt pe ⊢
  have cL : ce.locals = s3.heap.objs.size := by subst hce; rfl
  generalize hH3 : upd H2 D (.lst []) = H3 at I3 I4 pg pt pe w0 nfp f3
  generalize hs4 : ({ s3 with heap := pushCells (s3.heap.push { cls := .type "dict", data := .dict #[] }) scope.names } : Shared) = s4 at I4 ⊢
  have st4 : tn 0 s4.heap := T.keep _ _ _ st3 fun b _ o e => by rw [← hs4]; exact pushCells_keeps _ _ _ _ (Heap.get?_push_of_some _ e)
  have stat : ∀ {σ' : St} {H' : Hp} {s' : Shared}, Inv (X.blk s3 H3 scope ce fp) [] σ' H' s' → (∀ b ∈ fp, H' b = none) → ∀ b ∈ fp, FpOk (X.blk s3 H3 scope ce fp) [] H' b := fun {σ' H' s'} I' hn b hb =>
    ⟨hn b hb, (I'.ok.exf b hb).1, I'.ok.exfs b hb, .inl hb, fun x c e => (I'.ok.exf b hb).2 x c e, fun p hp => absurd (show p ∈ ([] : List (Addr × Obj)) ++ [] from hp) (by simp)⟩
  have loop : codeAny (model X.prog X.w) X.A (.compLoop (.ListComp elt [⟨tg, iter, ifs, 0⟩] scope pos) 0 (.ref it) (.ref D) ce) (compPost (model X.prog X.w) X.A X.xe use Qf (.ref D) s3.heap.objs.size) s4 := by
    refine compLoop_any (fun n s' => ∃ i H', Inv (X.blk s3 H3 scope ce fp) [] (wipe σ (own.map (·.2))) H' s' ∧ tn i s'.heap ∧ (∀ b ∈ fp, H' b = none) ∧ W i n H') ?_ m0 ⟨0, H3, I4, st4, nfp, w0⟩
    rintro n s5 ⟨i, H5, I5, st5, n5, w5⟩
    rcases turn i n H5 w5 with ⟨stop, qq⟩ | ⟨go, Nx, hNx, step⟩
    · have td := T.done (X.blk s3 H3 scope ce fp) rfl rfl rfl hc i [] s5 _ H5 (fun _ _ => False) I5 (stat I5 n5) st5 stop
      refine thnF td fun r s6 ⟨hr, I6⟩ => ?_
      subst hr
      have I7 : Inv X pins σ H5 s6 := I3.call' (ch := fp) I6.os I6.base I6.hok I6.bare fun b hb => ⟨(f3 b hb).1.2.2.2.1, (f3 b hb).1.2.1, (f3 b hb).1.2.2.2.2.1, (f3 b hb).1.2.2.2.2.2⟩
      have nC : H5 s3.heap.objs.size = none := by
        have z : H5 ce.locals = none := I6.free
        rw [cL] at z
        exact z
      obtain ⟨m, hn, _⟩ := I6.loc
      have hn : s6.heap.Ns ce.locals m := hn
      rw [cL] at hn
      exact hRR D s3.heap.objs.size s6 m H5 I7 qq hn (I3.fpOk (Nat.le_refl _) nC)
    · have ti := T.item (X.blk s3 H3 scope ce fp) rfl rfl rfl hc i [] s5 _ H5 (fun _ _ => False) I5 (stat I5 n5) st5 go
      refine thnF ti fun r s6 ⟨u, hr, h6⟩ => ?_
      subst hr
      refine thnF h6 fun _ s7 ⟨x, H7, I7, r7, y7, st7, n7⟩ => ?_
      have I7' := I7.pinned (stat I7 n7) (T.obj _ _ st7)
      refine thnF (pg _ s7 _ H7 x u _ I7' r7 (step x H7 y7)) fun _ s8 ⟨σ8, H8, I8, hw8, q8⟩ => ?_
      refine thnF (pt _ s8 σ8 H8 _ I8 q8) fun b s9 ⟨H9, I9, q9⟩ => ?_
      have fin : ∀ {s' : Shared} {H' : Hp}, Inv (X.blk s3 H3 scope ce fp) ([] ++ pinsAt fp s7.heap) σ8 H' s' → Nx H' → ∃ m, m < n ∧ ∃ i H', Inv (X.blk s3 H3 scope ce fp) [] (wipe σ (own.map (·.2))) H' s' ∧ tn i s'.heap ∧ (∀ b ∈ fp, H' b = none) ∧ W i m H' := fun {s' H'} I' nx => by
        obtain ⟨m', hm, w'⟩ := hNx H' nx
        have pin' : ∀ b ∈ fp, ∀ o, s7.heap.get? b = some o → s'.heap.get? b = some o ∧ H' b = none := fun b hb o e =>
          let z := I'.pin (b, o) (List.mem_append_right _ (List.mem_append_right _ (mem_pinsAt hb e)))
          ⟨z.1, z.2.1⟩
        have hl : (wipe σ (own.map (·.2))).length = σ8.length := by rw [← hw8, wipe_length]
        refine ⟨m', hm, i + 1, H', (I'.unpinned (pins := [])).weak hl (fun j v e => ?_), T.keep _ _ _ st7 fun b hb o e => (pin' b hb o e).1, fun b hb => ?_, w'⟩
        · rw [← hw8] at e
          exact (wipe_some e).1
        · obtain ⟨o, e, _⟩ := T.obj _ _ st7 b hb
          exact (pin' b hb o e).2
      cases b with
      | false =>
        simp only [Bool.false_eq_true, if_false] at q9 ⊢
        exact fin I9 q9
      | true =>
        simp only [if_true] at q9 ⊢
        refine thnF (pe _ s9 σ8 H9 _ I9 q9) fun z s10 ⟨yv, H10, I10, r10, acc, hD10, hz10, nx⟩ => ?_
        exact app_ok (X := X.blk s3 H3 scope ce fp) I10 hD10 hz10 r10 fun s11 I11 => fin I11 nx
  exact codeAny_compStart_list loop (T.self X.A 0 _ _ _ st4 loop)
theorem pe_lc {elt tg iter : Expr} {ifs : List Expr} {scope : Scope} {own : List (Str × Nat)} {pos : Pos} {wi : TI} {g : TG} {tt : TT} {te : TE} (hc : X.calm = true) (hN : X.N.Nodup) (hi : PI X tg iter wi) (ok : BlkOk X.N X.env.scope scope own)
    (hg : ∀ (s : Shared) (H : Hp) (C : Addr) (cl : List (Str × Addr)) (fp : List Addr), PG (X.blk s H scope (compEnvC scope cl C X.env) fp) tg g) (ht : ∀ (s : Shared) (H : Hp) (C : Addr) (cl : List (Str × Addr)) (fp : List Addr), PTs (X.blk s H scope (compEnvC scope cl C X.env) fp) ifs tt)
    (he : ∀ (s : Shared) (H : Hp) (C : Addr) (cl : List (Str × Addr)) (fp : List Addr), PE (X.blk s H scope (compEnvC scope cl C X.env) fp) elt te) (hs : ∀ x, foldedSetIterable iter X.env x = pure x := by intro _; rfl) :
    PE X (.ListComp elt [⟨tg, iter, ifs, 0⟩] scope pos) (tLc wi g tt te (own.map (·.2))) := by
  intro pins s σ H Q I h
  rw [eval_ListComp]
  refine lc_core hc hN I hi ok hg ht he hs h fun D C s' m H' I' q hn f => ⟨m, hn, fun h'' sb => ?_⟩
  obtain ⟨f0, f1, f2, f3, f4, f5⟩ := f
  exact ⟨.ref D, H', I'.turned (t' := s'.toks) (fun b o hb e => (sb.2 b hb).trans e) f0 f1 f3 f4 f5, rfl, q⟩
theorem ps_setLc {i : Nat} {y : Str} {py : Pos} {elt tg iter : Expr} {ifs : List Expr} {scope : Scope} {own : List (Str × Nat)} {pos spos : Pos} {wi : TI} {g : TG} {tt : TT} {te : TE} (hc : X.calm = true) (hN : X.N.Nodup) (hy : X.N[i]? = some y) (hyl : X.env.scope.names.lookup y = some .local)
    (hsw : swapsWith (.ListComp elt [⟨tg, iter, ifs, 0⟩] scope pos) (some (.Name y py)) spos.line X.env = pure true) (hi : PI X tg iter wi) (ok : BlkOk X.N X.env.scope scope own)
    (hg : ∀ (s : Shared) (H : Hp) (C : Addr) (cl : List (Str × Addr)) (fp : List Addr), PG (X.blk s H scope (compEnvC scope cl C X.env) fp) tg g) (ht : ∀ (s : Shared) (H : Hp) (C : Addr) (cl : List (Str × Addr)) (fp : List Addr), PTs (X.blk s H scope (compEnvC scope cl C X.env) fp) ifs tt)
    (he : ∀ (s : Shared) (H : Hp) (C : Addr) (cl : List (Str × Addr)) (fp : List Addr), PE (X.blk s H scope (compEnvC scope cl C X.env) fp) elt te) (hs : ∀ x, foldedSetIterable iter X.env x = pure x := by intro _; rfl) :
    PS X (.Assign [.Name y py] (.ListComp elt [⟨tg, iter, ifs, 0⟩] scope pos) spos) (tAsg (tLc wi g tt te (own.map (·.2))) (gName i)) := by
  intro pins s σ H D I h
  rw [exec_Assign_Name_used _ _ _ _ hsw]
  refine wpAny_bind (wpAny_standAt (wpAny_bind ?_))
  show wpAny _ X.A (do let _ ← comprehension (.ListComp elt [⟨tg, iter, ifs, 0⟩] scope pos) scope X.env (firstIterPos [⟨tg, iter, ifs, 0⟩] pos) (newList []) false (eval iter X.env) (some (assign (.Name y py) X.env))) _ _ s
  have h : tLc wi g tt te (own.map (·.2)) σ H (fun x H1 => gName i x σ H1 D.nx) := h
  refine wpAny_bind (thn (lc_core (Qf := fun _ s' => SP X pins D .next s') hc hN I hi ok hg ht he hs h fun L C s' m H' I' q hn f => ?_) fun _ s' hq => wpAny_pure (wpAny_pure hq))
  show wpAny _ _ (assign (.Name y py) X.env (.ref L)) _ _ _
  refine wpAny_assign_Name (store_ok2 (v := V.ref L) I' hN hy (.inl hyl) rfl (fun s2 I2 ⟨a, sb, ha⟩ => ?_) (.inr hyl))
  obtain ⟨f0, f1, f2, f3, f4, f5⟩ := f
  have haC : C ≠ a := by
    rcases ha with z | z
    · rw [z]; exact f1
    · exact fun e => f4 y a z e.symm
  refine ⟨m, hn.sameBut sb haC, fun h3 sb3 => ?_⟩
  exact ⟨_, H', I2.turned (t' := s2.toks) (fun b o hb e => (sb3.2 b hb).trans e) f0 f1 f3 f4 f5, q⟩
theorem sw_true {elt : Expr} {gs : List Comprehension} {scope : Scope} {pos py : Pos} {y : Str} {l : Nat} {env : Env} (hk : env.scope.kind = .function) (hy : env.scope.names.lookup y = some .local) (hl : (py.line == pos.line) = true)
    (ha : (scope.names.any fun (n, k) => n == y && (k == .local || k == .cell)) = false) : swapsWith (.ListComp elt gs scope pos) (some (.Name y py)) l env = pure true := by
  have ky : env.kindOf y = some .local := hy
  have hb : env.blockKind = .function := by unfold Env.blockKind; rw [hk]; rfl
  unfold swapsWith
  simp only [hb, ky, ha, Expr.pos, hl]
  rfl
end
theorem lc_range {lo : Int} {n : Nat} {g : TG} {tt : TT} {te : TE} {vs : List Nat} {σ : St} {H1 : Hp} {D : Addr} {Qd : Hp → Prop} (Pv : Nat → Hp → Prop) (h0 : Pv 0 (upd H1 D (.lst [])))
    (hs : ∀ i H, i < n → Pv i H → g (.int (lo + i)) (wipe σ vs) H fun σ2 H2 => wipe σ2 vs = wipe σ vs ∧ tt σ2 H2 fun b H3 =>
      if b = true then te σ2 H3 fun y H4 => ∃ acc, H4 D = some (.lst acc) ∧ acc.length < sizeLine ∧ Pv (i + 1) (upd H4 D (.lst (acc ++ [y]))) else Pv (i + 1) H3) (hd : ∀ H, Pv n H → Qd H) :
    ∃ W : Nat → Nat → Hp → Prop, (∃ m, W 0 m (upd H1 D (.lst []))) ∧ ∀ i m H, W i m H →
      ((Itr lo n).stop i H ∧ Qd H) ∨ ((Itr lo n).go i H ∧ ∃ Nx : Hp → Prop, (∀ H', Nx H' → ∃ m', m' < m ∧ W (i + 1) m' H') ∧ ∀ x H', (Itr lo n).yld i H x H' → g x (wipe σ vs) H' fun σ2 H2 => wipe σ2 vs = wipe σ vs ∧ tt σ2 H2 fun b H3 =>
        if b = true then te σ2 H3 fun y H4 => ∃ acc, H4 D = some (.lst acc) ∧ acc.length < sizeLine ∧ Nx (upd H4 D (.lst (acc ++ [y]))) else Nx H3) := by
  refine ⟨fun i m H => m = n - i ∧ i ≤ n ∧ Pv i H, ⟨n, by simp, Nat.zero_le _, h0⟩, ?_⟩
  rintro i m H ⟨rfl, hi, p⟩
  by_cases hlt : i < n
  · refine .inr ⟨hlt, Pv (i + 1), fun H' p' => ⟨n - (i + 1), by omega, rfl, hlt, p'⟩, fun x H' y => ?_⟩
    obtain ⟨e, y⟩ := y
    subst e y
    exact hs i _ hlt p
  · have e : i = n := by omega
    subst e
    exact .inl ⟨Nat.le_refl _, hd H p⟩
theorem lc_list {K : PySem.W.Frag} {a : Addr} {xs : List V} {g : TG} {tt : TT} {te : TE} {vs : List Nat} {σ : St} {H1 : Hp} {D : Addr} {Qd : Hp → Prop} (Pv : Nat → Hp → Prop) (h0 : Pv 0 (upd H1 D (.lst []))) (hl : ∀ i H, i ≤ xs.length → Pv i H → SqL K H a xs)
    (hs : ∀ i x H, xs[i]? = some x → Pv i H → g x (wipe σ vs) H fun σ2 H2 => wipe σ2 vs = wipe σ vs ∧ tt σ2 H2 fun b H3 =>
      if b = true then te σ2 H3 fun y H4 => ∃ acc, H4 D = some (.lst acc) ∧ acc.length < sizeLine ∧ Pv (i + 1) (upd H4 D (.lst (acc ++ [y]))) else Pv (i + 1) H3) (hd : ∀ H, Pv xs.length H → Qd H) :
    ∃ W : Nat → Nat → Hp → Prop, (∃ m, W 0 m (upd H1 D (.lst []))) ∧ ∀ i m H, W i m H →
      ((Itl K a).stop i H ∧ Qd H) ∨ ((Itl K a).go i H ∧ ∃ Nx : Hp → Prop, (∀ H', Nx H' → ∃ m', m' < m ∧ W (i + 1) m' H') ∧ ∀ x H', (Itl K a).yld i H x H' → g x (wipe σ vs) H' fun σ2 H2 => wipe σ2 vs = wipe σ vs ∧ tt σ2 H2 fun b H3 =>
        if b = true then te σ2 H3 fun y H4 => ∃ acc, H4 D = some (.lst acc) ∧ acc.length < sizeLine ∧ Nx (upd H4 D (.lst (acc ++ [y]))) else Nx H3) := by
  refine ⟨fun i m H => m = xs.length - i ∧ i ≤ xs.length ∧ Pv i H, ⟨xs.length, by simp, Nat.zero_le _, h0⟩, ?_⟩
  rintro i m H ⟨rfl, hi, p⟩
  have q := hl i H hi p
  by_cases hlt : i < xs.length
  · refine .inr ⟨⟨xs, xs[i], q, by simp [hlt]⟩, Pv (i + 1), fun H' p' => ⟨xs.length - (i + 1), by omega, rfl, hlt, p'⟩, fun x H' y => ?_⟩
    obtain ⟨e, y⟩ := y
    subst e
    exact hs i x _ (y xs q) p
  · have e : i = xs.length := by omega
    subst e
    exact .inl ⟨⟨xs, q, Nat.le_refl _⟩, hd H p⟩
def blkC (N : List Str) (sc scope : Scope) (own : List (Str × Nat)) : Bool :=
  (match scope.kind with | .function => true | _ => false) && (scope.names.all fun y => decide (scope.names.lookup y.1 = some y.2)) && (own.all fun p => decide (N[p.2]? = some p.1)) &&
    (scope.names.all fun y => match y.2 with
      | .free => (match sc.names.lookup y.1 with | some .cell => true | some .free => true | _ => false)
      | .local => decide (y.1 ∈ own.map (·.1)) || decide (y.1 ∉ N)
      | .cell => decide (y.1 ∈ own.map (·.1)) || decide (y.1 ∉ N)
      | _ => true)
theorem blkOk_by {N : List Str} {sc scope : Scope} {own : List (Str × Nat)} (h : blkC N sc scope own = true) : BlkOk N sc scope own := by
  unfold blkC at h
  simp only [Bool.and_eq_true, List.all_eq_true, decide_eq_true_eq] at h
  obtain ⟨⟨⟨h1, h2⟩, h3⟩, h4⟩ := h
  refine ⟨?_, h2, h3, fun y hy e => ?_, fun y hy e => ?_⟩
  · split at h1
    · assumption
    · cases h1
  · have q := h4 y hy
    simp only [e] at q
    split at q <;> first | exact .inl (by assumption) | exact .inr (by assumption) | cases q
  · have q := h4 y hy
    rcases e with e | e <;> (simp only [e, Bool.or_eq_true, decide_eq_true_eq] at q; exact q)
end L2
namespace L2
open PySem PySem.Spec PyProof.Rows
section
variable {prog : Program} {w : World} {A : Around} {R : Result → Shared → Prop} {s : Shared} {elt t0 i0 t1 i1 : Expr} {ifs0 ifs1 : List Expr} {scope : Scope} {pos : Pos} {it acc : Value} {env : Env}
end
section
variable {X : Cx}
end
end L2
namespace L2
open PySem PySem.Spec PyProof.Rows
section
variable {κ : Type} [DecidableEq κ]
def valV (kvs : List (κ × V)) (k : κ) : Option V := (kvs.find? fun kv => decide (kv.1 = k)).map (·.2)
def putK (kvs : List (κ × V)) (k : κ) (v : V) : List (κ × V) :=
  if (kvs.any fun kv => decide (kv.1 = k)) = true then kvs.map (fun kv => if kv.1 = k then (kv.1, v) else kv) else kvs ++ [(k, v)]
def dropK (kvs : List (κ × V)) (k : κ) : List (κ × V) := kvs.filter fun kv => decide (kv.1 ≠ k)
theorem valV_pos {p : κ × V} {r : List (κ × V)} {k : κ} (e : p.1 = k) : valV (p :: r) k = some p.2 := by simp [valV, List.find?_cons, e]
theorem valV_neg {p : κ × V} {r : List (κ × V)} {k : κ} (e : ¬ p.1 = k) : valV (p :: r) k = valV r k := by simp [valV, List.find?_cons, e]
theorem valV_any (k : κ) : ∀ kvs : List (κ × V), (kvs.any fun kv => decide (kv.1 = k)) = (valV kvs k).isSome
  | [] => rfl
  | p :: r => by
    rw [List.any_cons]
    by_cases e : p.1 = k
    · simp only [valV_pos e, decide_eq_true e, Bool.true_or, Option.isSome_some]
    · rw [valV_neg e, decide_eq_false e, Bool.false_or]; exact valV_any k r
theorem length_putK (kvs : List (κ × V)) (k : κ) (v : V) : (putK kvs k v).length ≤ kvs.length + 1 := by
  unfold putK
  split
  · rw [List.length_map]; omega
  · rw [List.length_append, List.length_cons, List.length_nil]; omega
theorem putK_new {kvs : List (κ × V)} {k : κ} (v : V) (h : valV kvs k = none) : putK kvs k v = kvs ++ [(k, v)] := by
  unfold putK
  rw [valV_any, h]
  exact if_neg (by decide)
theorem RelO.isSome_eq {o : Option V} {u : Option Value} (r : RelO o u) : o.isSome = u.isSome := by
  cases o with
  | none => cases u with
    | none => rfl
    | some _ => exact (show False from r).elim
  | some _ => cases u with
    | none => exact (show False from r).elim
    | some _ => rfl
theorem KV.val {kvs : List (κ × V)} {vs : List (κ × Value)} (r : KV kvs vs) (k : κ) : RelO (valV kvs k) (valueAt vs k) := by
  unfold KV at r
  induction r with
  | nil => exact True.intro
  | @cons p q ps qs h t ih =>
    obtain ⟨h1, h2⟩ := h
    by_cases e : p.1 = k
    · have e' : q.1 = k := h1.symm.trans e
      have b : valueAt (q :: qs) k = some q.2 := by simp [valueAt, List.find?_cons, e']
      rw [valV_pos e, b]; exact h2
    · have e' : ¬ q.1 = k := fun z => e (h1.trans z)
      have b : valueAt (q :: qs) k = valueAt qs k := by simp [valueAt, List.find?_cons, e']
      rw [valV_neg e, b]; exact ih
theorem KV.any {kvs : List (κ × V)} {vs : List (κ × Value)} (r : KV kvs vs) (k : κ) : (kvs.any fun kv => decide (kv.1 = k)) = vs.any fun kv => decide (kv.1 = k) := by
  unfold KV at r
  induction r with
  | nil => rfl
  | cons h t ih => rw [List.any_cons, List.any_cons, ih, h.1]
theorem KV.repl {kvs : List (κ × V)} {vs : List (κ × Value)} (r : KV kvs vs) (k : κ) {y : V} {u : Value} (ry : RelV y u) :
    KV (kvs.map fun kv => if kv.1 = k then (kv.1, y) else kv) (vs.map fun kv => if kv.1 = k then (kv.1, u) else kv) := by
  unfold KV at r ⊢
  induction r with
  | nil => exact .nil
  | @cons p q ps qs h t ih =>
    rw [List.map_cons, List.map_cons]
    refine .cons ?_ ih
    obtain ⟨h1, h2⟩ := h
    by_cases e : p.1 = k
    · rw [if_pos e, if_pos (h1.symm.trans e)]; exact ⟨h1, ry⟩
    · rw [if_neg e, if_neg (fun z => e (h1.trans z))]; exact ⟨h1, h2⟩
theorem KV.put {kvs : List (κ × V)} {vs : List (κ × Value)} (r : KV kvs vs) (k : κ) {y : V} {u : Value} (ry : RelV y u) : KV (putK kvs k y) (stored vs k u) := by
  unfold putK stored
  rw [r.any k]
  by_cases e : (vs.any fun kv => decide (kv.1 = k)) = true
  · rw [if_pos e, if_pos e]; exact r.repl k ry
  · rw [if_neg e, if_neg e]; exact Paired.snoc r ⟨rfl, ry⟩
theorem KV.drop {kvs : List (κ × V)} {vs : List (κ × Value)} (r : KV kvs vs) (k : κ) : KV (dropK kvs k) (without vs k) := by
  unfold KV at r ⊢
  unfold dropK without
  induction r with
  | nil => exact .nil
  | @cons p q ps qs h t ih =>
    obtain ⟨h1, h2⟩ := h
    rw [List.filter_cons, List.filter_cons]
    by_cases e : p.1 = k
    · have a : ¬ decide (p.1 ≠ k) = true := by simp [e]
      have b : ¬ decide (q.1 ≠ k) = true := by simp [h1.symm.trans e]
      rw [if_neg a, if_neg b]; exact ih
    · have e' : ¬ q.1 = k := fun z => e (h1.trans z)
      have a : decide (p.1 ≠ k) = true := by simp [e]
      have b : decide (q.1 ≠ k) = true := by simp [e']
      rw [if_pos a, if_pos b]; exact .cons ⟨h1, h2⟩ ih
theorem KV.length {kvs : List (κ × V)} {vs : List (κ × Value)} (r : KV kvs vs) : kvs.length = vs.length := Paired.length r
theorem dropK_le (kvs : List (κ × V)) (k : κ) : (dropK kvs k).length ≤ kvs.length := List.length_filter_le _ _
end
theorem kV_is {P : Program} {w : World} {k : Key} {u : Value} (r : RelV (kV k) u) : (mixKind P w).is k u = true := by
  cases k with
  | inl i => obtain ⟨t, e⟩ := (show ∃ t, u = Value.int i t from r); subst e; exact mixKind_int P w i t
  | inr x => obtain ⟨t, e⟩ := (show ∃ t, u = Value.str x t from r); subst e; exact mixKind_str P w x t
theorem items_are {P : Program} {w : World} : ∀ {ks : List Key} {us : List Value}, Vals (ks.map kV) us → ItemsAre (mixKind P w) ks us
  | [], _, r => by rw [List.map_nil] at r; cases r; exact .nil
  | k :: ks, _, r => by
    rw [List.map_cons] at r
    cases r with
    | cons h t => exact .cons (kV_is h) (items_are t)
abbrev KT (H : Hp) : List (List Key × V) → List (List Key × Addr × Value) → Prop := Paired fun p q => p.1 = q.1 ∧ H q.2.1 = some (.tup (p.1.map kV)) ∧ RelV p.2 q.2.2
theorem KT.val {H : Hp} {kvs : List (List Key × V)} {xs : List (List Key × Addr × Value)} (r : KT H kvs xs) (k : List Key) : RelO (valV kvs k) ((atKey xs k).map (·.2)) := by
  induction r with
  | nil => exact True.intro
  | @cons p q ps qs h t ih =>
    obtain ⟨h1, _, h2⟩ := h
    by_cases e : p.1 = k
    · have e' : q.1 = k := h1.symm.trans e
      have b : atKey (q :: qs) k = some q.2 := by simp [atKey, List.find?_cons, e']
      rw [valV_pos e, b]; exact h2
    · have e' : ¬ q.1 = k := fun z => e (h1.trans z)
      have b : atKey (q :: qs) k = atKey qs k := by simp [atKey, List.find?_cons, e']
      rw [valV_neg e, b]; exact ih
theorem KT.repl {H : Hp} {kvs : List (List Key × V)} {xs : List (List Key × Addr × Value)} (r : KT H kvs xs) (k : List Key) {y : V} {u : Value} (ry : RelV y u) :
    KT H (kvs.map fun kv => if kv.1 = k then (kv.1, y) else kv) (xs.map (putAt k u)) := by
  induction r with
  | nil => exact .nil
  | @cons p q ps qs h t ih =>
    rw [List.map_cons, List.map_cons]
    refine .cons ?_ ih
    obtain ⟨h1, h2, h3⟩ := h
    unfold putAt
    by_cases e : p.1 = k
    · rw [if_pos e, if_pos (h1.symm.trans e)]; exact ⟨h1, h2, ry⟩
    · rw [if_neg e, if_neg (fun z => e (h1.trans z))]; exact ⟨h1, h2, h3⟩
theorem KT.put {H : Hp} {kvs : List (List Key × V)} {xs : List (List Key × Addr × Value)} (r : KT H kvs xs) (k : List Key) {b : Addr} {y : V} {u : Value} (hb : H b = some (.tup (k.map kV))) (ry : RelV y u) :
    KT H (putK kvs k y) (storedH xs k b u) := by
  have e : (kvs.any fun kv => decide (kv.1 = k)) = (atKey xs k).isSome := by
    rw [valV_any, (r.val k).isSome_eq, Option.isSome_map]
  unfold putK storedH
  rw [e]
  by_cases q : (atKey xs k).isSome = true
  · rw [if_pos q, if_pos q]; exact r.repl k ry
  · rw [if_neg q, if_neg q]; exact Paired.snoc r ⟨rfl, hb, ry⟩
theorem KT.keeps {H H' : Hp} {kvs : List (List Key × V)} {xs : List (List Key × Addr × Value)} (r : KT H kvs xs) (ht : ∀ b ys, H b = some (.tup ys) → H' b = some (.tup ys)) : KT H' kvs xs :=
  Paired.mapP r fun _ _ z => ⟨z.1, ht _ _ z.2.1, z.2.2⟩
section
variable {P : Program} {w : World} {H : Hp} {h : Heap} {a : Addr}
theorem rd_of {u : HO} (ok : HOk P w H h) (e : Rd H a u) : ObjOk P w H h a u := e.ok ok
theorem dk_rd {kvs : List (Key × V)} (ok : HOk P w H h) (e : Rd H a (.dK kvs)) : kvs.length ≤ sizeLine ∧ (a == sysModules) = false ∧ ∃ vs, KV kvs vs ∧ h.DictOf (mixKind P w) a vs :=
  show ObjOk P w H h a (.dK kvs) from rd_of ok e
theorem dk_of {kvs : List (Key × V)} (ok : HOk P w H h) (e : H a = some (.dK kvs)) : kvs.length ≤ sizeLine ∧ (a == sysModules) = false ∧ ∃ vs, KV kvs vs ∧ h.DictOf (mixKind P w) a vs := dk_rd ok (.inl e)
theorem key_of {ks : List Key} (ok : HOk P w H h) (e : H a = some (.tup (ks.map kV))) : (tupleKind (mixKind P w)).is h ks a := by
  obtain ⟨_, its, r, o, h1, h2, n, h3⟩ := (show ObjOk P w H h a (.tup (ks.map kV)) from ok a _ e)
  exact ⟨o, its.toArray, n, h1, h2, h3, by simpa using items_are r⟩
theorem dt_rd {kvs : List (List Key × V)} (ok : HOk P w H h) (e : Rd H a (.dT kvs)) : kvs.length ≤ sizeLine ∧ (a == sysModules) = false ∧
    ∃ xs, KT H kvs xs ∧ h.DictOfH (tupleKind (mixKind P w)) a xs := by
  obtain ⟨z, y, xs, r, o, es, ep, h1, h2, h3, h4, h5⟩ := (show ObjOk P w H h a (.dT kvs) from rd_of ok e)
  refine ⟨z, y, xs, r, o, es, ep, h1, h2, h3, h4, fun x hx => ?_, h5⟩
  have all : ∀ {l : List (List Key × V)} {m : List (List Key × Addr × Value)}, KT H l m → ∀ x ∈ m, (tupleKind (mixKind P w)).is h x.1 x.2.1 := by
    intro l m q
    induction q with
    | nil => intro x hx; exact nomatch hx
    | @cons p q ps qs hq t ih =>
      intro x hx
      rcases List.mem_cons.mp hx with e | hx
      · subst e
        exact key_of ok (by rw [← hq.1]; exact hq.2.1)
      · exact ih x hx
  exact all r x hx
theorem dt_of {kvs : List (List Key × V)} (ok : HOk P w H h) (e : H a = some (.dT kvs)) : kvs.length ≤ sizeLine ∧ (a == sysModules) = false ∧
    ∃ xs, KT H kvs xs ∧ h.DictOfH (tupleKind (mixKind P w)) a xs := dt_rd ok (.inl e)
end
def DGet (H : Hp) (a : Addr) (y : V) (r : Option V) : Prop :=
  (∃ kvs k, Rd H a (.dK kvs) ∧ y = kV k ∧ r = valV kvs k) ∨ ∃ kvs k b, Rd H a (.dT kvs) ∧ y = .ref b ∧ H b = some (.tup (k.map kV)) ∧ r = valV kvs k
def DPut (H : Hp) (a : Addr) (y v : V) (H' : Hp) : Prop :=
  (∃ kvs k, H a = some (.dK kvs) ∧ y = kV k ∧ kvs.length < sizeLine ∧ H' = upd H a (.dK (putK kvs k v))) ∨
  ∃ kvs k b, H a = some (.dT kvs) ∧ y = .ref b ∧ H b = some (.tup (k.map kV)) ∧ kvs.length < sizeLine ∧ H' = upd H a (.dT (putK kvs k v))
theorem DGet.k {H : Hp} {a : Addr} {kvs : List (Key × V)} {k : Key} (e : H a = some (.dK kvs)) : DGet H a (kV k) (valV kvs k) := .inl ⟨kvs, k, .inl e, rfl, rfl⟩
theorem DPut.k {H : Hp} {a : Addr} {kvs : List (Key × V)} {k : Key} {v : V} (e : H a = some (.dK kvs)) (hl : kvs.length < sizeLine) : DPut H a (kV k) v (upd H a (.dK (putK kvs k v))) := .inl ⟨kvs, k, e, rfl, hl, rfl⟩
section
variable {X : Cx} {pins : List (Addr × Obj)} {σ : St} {H : Hp} {s : Shared} {a : Addr} {y v : V} {u r : Value} {o : Option V} {A : Around} {E : Value → Shared → Prop}
theorem Inv.big (I : Inv X pins σ H s) : sysModules < s.heap.objs.size := by
  have h : mainGlobals < s.heap.objs.size := (I.mod.glob.keeps I.bk).lt
  exact Nat.lt_trans (by decide) h
theorem d_getItem {Q : Value → Shared → Prop} (hu : A.units + 1 < cLine) (I : Inv X pins σ H s) (g : DGet H a y (some v)) (ry : RelV y u) (h : ∀ w' s', Inv X pins σ H s' → RelV v w' → Q w' s') :
    wpAny (model X.prog X.w) A (getItem (.ref a) u) Q E s := by
  rcases g with ⟨kvs, k, e, ey, l⟩ | ⟨kvs, k, b, e, ey, eb, l⟩
  · subst ey
    obtain ⟨z, hd, vs, rel, dd⟩ := dk_rd I.hok e
    obtain ⟨w', hw, rw'⟩ := RelO.some_of (v := v) (o := valueAt vs k) (by rw [l]; exact rel.val k)
    exact wpAny_getItem_of (kV_is ry) dd.mapOf hw (h w' _ (I.tok _) rw')
  · subst ey
    cases (show u = Value.ref b from ry)
    obtain ⟨z, hd, xs, rel, dd⟩ := dt_rd I.hok e
    obtain ⟨w', hw, rw'⟩ := RelO.some_of (v := v) (o := (atKey xs k).map (·.2)) (by rw [l]; exact rel.val k)
    obtain ⟨p, hp, hp2⟩ := Option.map_eq_some_iff.mp hw
    refine wpAny_getItem_heap (tupleKind_room_in1 hu) (key_of I.hok eb) dd hp ?_
    rw [hp2]
    exact h w' _ (I.tok _) rw'
theorem d_in {Q : Value → Shared → Prop} (hu : A.units + 1 < cLine) (I : Inv X pins σ H s) (g : DGet H a y o) (ry : RelV y u) (h : ∀ s', Inv X pins σ H s' → Q (.bool o.isSome) s') :
    wpAny (model X.prog X.w) A (compareOp .In u (.ref a)) Q E s := by
  rcases g with ⟨kvs, k, e, ey, l⟩ | ⟨kvs, k, b, e, ey, eb, l⟩
  · subst ey
    obtain ⟨z, hd, vs, rel, dd⟩ := dk_rd I.hok e
    refine wpAny_in_of (kV_is ry) hd dd.mapOf ?_
    rw [← (rel.val k).isSome_eq, ← l]
    exact h _ (I.tok _)
  · subst ey
    cases (show u = Value.ref b from ry)
    obtain ⟨z, hd, xs, rel, dd⟩ := dt_rd I.hok e
    refine wpAny_in_heap (tupleKind_room_in1 hu) (key_of I.hok eb) hd dd ?_
    have q := (rel.val k).isSome_eq
    rw [Option.isSome_map] at q
    rw [← q, ← l]
    exact h _ (I.tok _)
theorem d_notIn {Q : Value → Shared → Prop} (hu : A.units + 1 < cLine) (I : Inv X pins σ H s) (g : DGet H a y o) (ry : RelV y u) (h : ∀ s', Inv X pins σ H s' → Q (.bool (!o.isSome)) s') :
    wpAny (model X.prog X.w) A (compareOp .NotIn u (.ref a)) Q E s := by
  rcases g with ⟨kvs, k, e, ey, l⟩ | ⟨kvs, k, b, e, ey, eb, l⟩
  · subst ey
    obtain ⟨z, hd, vs, rel, dd⟩ := dk_rd I.hok e
    refine wpAny_notIn_of (kV_is ry) hd dd.mapOf ?_
    rw [← (rel.val k).isSome_eq, ← l]
    exact h _ (I.tok _)
  · subst ey
    cases (show u = Value.ref b from ry)
    obtain ⟨z, hd, xs, rel, dd⟩ := dt_rd I.hok e
    refine wpAny_notIn_heap (tupleKind_room_in1 hu) (key_of I.hok eb) hd dd ?_
    have q := (rel.val k).isSome_eq
    rw [Option.isSome_map] at q
    rw [← q, ← l]
    exact h _ (I.tok _)
theorem d_write {h' : Heap} {t' : Nat} {ob : HO} (I : Inv X pins σ H s) (mu : Mut (H a)) (hs : Heap.SameBut a s.heap h') (he : ∃ q, h'.get? a = some q) (new : ObjOk X.prog X.w (upd H a ob) h' a ob) :
    Inv X pins σ (upd H a ob) { s with heap := h', toks := t' } :=
  I.write (x := a) (e := a) mu (.inl rfl) (fun b q hb z => (hs.2 b hb).trans z) he new
theorem dk_new {P : Program} {w : World} {H' : Hp} {h' : Heap} {kvs : List (Key × V)} {vs : List (Key × Value)} (z : kvs.length ≤ sizeLine) (hd : (a == sysModules) = false) (rel : KV kvs vs) (dd : h'.DictOf (mixKind P w) a vs) :
    ObjOk P w H' h' a (.dK kvs) := ⟨z, hd, vs, rel, dd⟩
theorem d_setItem {H' : Hp} {Q : Unit → Shared → Prop} (hu : A.units + 1 < cLine) (I : Inv X pins σ H s) (g : DPut H a y v H') (ry : RelV y u) (rv : RelV v r) (h : ∀ s', Inv X pins σ H' s' → Q () s') :
    wpAny (model X.prog X.w) A (setItem (.ref a) u r) Q E s := by
  rcases g with ⟨kvs, k, e, ey, l, eH⟩ | ⟨kvs, k, b, e, ey, eb, l, eH⟩
  · subst ey eH
    obtain ⟨z, hd, vs, rel, dd⟩ := dk_of I.hok e
    have hz : vs.length ≤ sizeLine := by rw [← rel.length]; exact z
    have hl : (putK kvs k v).length ≤ sizeLine := by have := length_putK kvs k v; omega
    refine wpAny_setItem_pairs (hsz := hz) (kV_is ry) dd fun h' dd' hs => h _ ?_
    have he : ∃ q, h'.get? a = some q := let ⟨q, _, _, hq, _⟩ := dd'; ⟨q, hq⟩
    exact d_write I (by rw [e]; exact True.intro) hs he (dk_new hl hd (rel.put k rv) dd')
  · subst ey eH
    cases (show u = Value.ref b from ry)
    obtain ⟨z, hd, xs, rel, dd⟩ := dt_of I.hok e
    have hz : xs.length ≤ sizeLine := by rw [← Paired.length rel]; exact z
    have hl : (putK kvs k v).length ≤ sizeLine := by have := length_putK kvs k v; omega
    refine wpAny_setItem_heap (hsz := hz) (tupleKind_room_in1 hu) (key_of I.hok eb) dd fun h' dd' hs => h _ ?_
    obtain ⟨q, es, ep, hq, h2, h3, h4, _, h5⟩ := dd'
    refine d_write I (by rw [e]; exact True.intro) hs ⟨q, hq⟩ ⟨hl, hd, _, (rel.put k eb rv).keeps fun c ys ec => ?_, q, es, ep, hq, h2, h3, h4, h5⟩
    rw [upd_ne (ne_of ec e (fun z => nomatch z))]
    exact ec
end
section
variable {X : Cx} {pins : List (Addr × Obj)} {σ : St} {H : Hp} {s : Shared} {a : Addr} {kvs : List (Key × V)} {k : Key} {u : Value} {A : Around} {E : Value → Shared → Prop}
theorem d_delItem {Q : Unit → Shared → Prop} (I : Inv X pins σ H s) (e : H a = some (.dK kvs)) (ry : RelV (kV k) u) (l : (valV kvs k).isSome = true) (h : ∀ s', Inv X pins σ (upd H a (.dK (dropK kvs k))) s' → Q () s') :
    wpAny (model X.prog X.w) A (delItem (.ref a) u) Q E s := by
  obtain ⟨z, hd, vs, rel, dd⟩ := dk_of I.hok e
  refine wpAny_delItem_slot dd.typeIs (by decide) PySem.F.slot_dict_delitem
    (call_meetsIn PySem.F.slot_dict_delitem dd.typeIs PySem.F.entry_dict_delitem (PySem.F.args_dict_delitem_2 _ _) (meets_dict_delitem_pairs (mixKind X.prog X.w) a (kV_is ry)) ⟨vs, dd, by rw [← rel.length]; exact z, by rw [← (rel.val k).isSome_eq]; exact l, fun h' dd' hs => h _ ?_⟩)
  have he : ∃ q, h'.get? a = some q := let ⟨q, _, _, hq, _⟩ := dd'; ⟨q, hq⟩
  exact d_write I (by rw [e]; exact True.intro) hs he (dk_new (Nat.le_trans (dropK_le kvs k) z) hd (rel.drop k) dd')
theorem d_pop {v : V} {more : List Value} {Q : Value → Shared → Prop} (I : Inv X pins σ H s) (e : H a = some (.dK kvs)) (ry : RelV (kV k) u) (l : valV kvs k = some v) (hm : more = [] ∨ ∃ x, more = [x])
    (h : ∀ w' s', Inv X pins σ (upd H a (.dK (dropK kvs k))) s' → RelV v w' → Q w' s') : wpAny (model X.prog X.w) A (call (.builtin "dict.pop") (.ref a :: u :: more)) Q E s := by
  obtain ⟨z, hd, vs, rel, dd⟩ := dk_of I.hok e
  obtain ⟨w', hw, rw'⟩ := RelO.some_of (v := v) (o := valueAt vs k) (by rw [← l]; exact rel.val k)
  have hp : (keyPart u).isSome = true := by
    cases k with
    | inl i => obtain ⟨t, q⟩ := (show ∃ t, u = Value.int i t from ry); subst q; rfl
    | inr x => obtain ⟨t, q⟩ := (show ∃ t, u = Value.str x t from ry); subst q; rfl
  have ha : argsOk "dict.pop" ⟨.ref a :: u :: more, []⟩ := by
    rcases hm with q | ⟨x, q⟩
    · subst q; exact PySem.F.args_dict_pop_2 _ _
    · subst q; exact PySem.F.args_dict_pop_3 _ _ _
  refine call_meetsIn PySem.F.slot_dict_pop dd.typeIs PySem.F.entry_dict_pop ha (meets_dict_pop_there (mixKind X.prog X.w) a (kV_is ry) more hm hp)
    ⟨vs, w', dd, by rw [← rel.length]; exact z, hw, fun h' dd' hs => h w' _ ?_ rw'⟩
  have he : ∃ q, h'.get? a = some q := let ⟨q, _, _, hq, _⟩ := dd'; ⟨q, hq⟩
  exact d_write I (by rw [e]; exact True.intro) hs he (dk_new (Nat.le_trans (dropK_le kvs k) z) hd (rel.drop k) dd')
theorem d_len {Q : Value → Shared → Prop} (I : Inv X pins σ H s) (e : Rd H a (.dK kvs)) (h : ∀ t s', Inv X pins σ H s' → Q (.int kvs.length t) s') : wpAny (model X.prog X.w) A (call (.builtin "len") [.ref a]) Q E s := by
  obtain ⟨z, hd, vs, rel, dd⟩ := dk_rd I.hok e
  refine call_len_dict hd dd (by rw [← rel.length]; rw [sizeLine_eq] at z; omega) ?_
  rw [← rel.length]
  exact h _ _ (I.tok _)
end
def NoSl (i : Expr) : Prop := ∀ ov iv, subscripted i false ov iv = operate [ov, iv] (getItem ov iv)
theorem subD_of {prog : Program} {w : World} {A : Around} {E : Value → Shared → Prop} {s : Shared} {env : Env} {value slice : Expr} {pos : Pos} {T id : String} {Q : Value → Shared → Prop}
    (hl : typeLookup (.type T) "__getitem__" = pure (some (.builtin id))) (hs : NoSl slice)
    (h : wpAny (model prog w) A (eval value env) (fun o s₁ => wpAny (model prog w) A (eval slice env) (fun i s₂ => s₂.TypeIs o T ∧ wpAny (model prog w) A (getItem o i) Q E s₂) E s₁) E s) :
    wpAny (model prog w) A (eval (.Subscript value slice pos) env) Q E s := by
  refine Subscript_ (wpAny_mono h (fun o s₁ h₁ => wpAny_mono h₁ (fun i s₂ h₂ => ?_) fun _ _ x => x) fun _ _ x => x)
  obtain ⟨hT, h₂⟩ := h₂
  unfold subscriptTail
  refine wpAny_bind ?_
  rw [getitemInPython_of_ne hT.not_modules]
  refine wpAny_bind (wpAny_specialOf hT hl ?_)
  have fin : wpAny (model prog w) A (subscripted slice false o i) (fun r s₃ => wpAny (model prog w) A (letTemporaryGo value o r >>= fun _ => pure r) Q E s₃) E s₂ := by
    rw [hs o i]
    exact wpAny_operating (wpAny_mono h₂ (fun r s₃ h₃ => wpAny_bind (wpAny_letTemporaryGo (wpAny_pure h₃))) fun _ _ x => x)
  first
    | exact wpAny_pure (wpAny_bind fin)
    | exact wpAny_bind (wpAny_pure (wpAny_bind fin))
    | exact wpAny_bind fin
theorem dict_typeIs {X : Cx} {pins : List (Addr × Obj)} {σ : St} {H : Hp} {s : Shared} {a : Addr} {y : V} {o : Option V} (I : Inv X pins σ H s) (g : DGet H a y o) : s.TypeIs (.ref a) "dict" := by
  rcases g with ⟨kvs, k, e, _, _⟩ | ⟨kvs, k, b, e, _, _, _⟩
  · obtain ⟨_, _, vs, _, dd⟩ := dk_rd I.hok e
    exact dd.typeIs
  · obtain ⟨_, _, xs, _, dd⟩ := dt_rd I.hok e
    exact dd.typeIs
def tDGet (td ty : TE) : TE := fun σ H Q => td σ H fun x H1 => ty σ H1 fun y H2 => ∃ a v, x = .ref a ∧ DGet H2 a y (some v) ∧ Q v H2
def tDIn (ty td : TE) : TE := fun σ H Q => ty σ H fun y H1 => td σ H1 fun x H2 => ∃ a o, x = .ref a ∧ DGet H2 a y o ∧ Q (.bl o.isSome) H2
def tDNotIn (ty td : TE) : TE := fun σ H Q => ty σ H fun y H1 => td σ H1 fun x H2 => ∃ a o, x = .ref a ∧ DGet H2 a y o ∧ Q (.bl (!o.isSome)) H2
def sDPut (td ty tv : TE) : TS := fun D σ H => tv σ H fun v H1 => td σ H1 fun x H2 => ty σ H2 fun y H3 => ∃ a H4, x = .ref a ∧ DPut H3 a y v H4 ∧ D.nx σ H4
section
variable {X : Cx} {o i e value : Expr} {pos pos' tpos : Pos} {td ty tv : TE}
theorem pe_dget (hu : X.A.units + 1 < cLine) (ho : PE X o td) (hi : PE X i ty) (hs : NoSl i) : PE X (.Subscript o i pos) (tDGet td ty) := by
  intro pins s σ H Q I h
  refine subD_of PySem.F.slot_dict_getitem.lookup hs (thn (ho pins s σ H _ I h) fun u s1 ⟨x, H1, I1, rx, q1⟩ => thn (hi pins s1 σ H1 _ I1 q1) fun iv s2 ⟨y, H2, I2, ry, a, v, ex, g, q2⟩ => ?_)
  subst ex
  obtain rfl : u = Value.ref a := rx
  exact ⟨dict_typeIs I2 g, d_getItem hu I2 g ry fun w' s3 I3 rw' => ⟨v, H2, I3, rw', q2⟩⟩
theorem pc_din (hu : X.A.units + 1 < cLine) (hi : PE X i ty) (ho : PE X o td) : PC X .In i o (tDIn ty td) := by
  intro pins s σ H Q I h
  refine thn (hi pins s σ H _ I h) fun iv s1 ⟨y, H1, I1, ry, q1⟩ => thn (ho pins s1 σ H1 _ I1 q1) fun u s2 ⟨x, H2, I2, rx, a, ov, ex, g, q2⟩ => ?_
  subst ex
  obtain rfl : u = Value.ref a := rx
  exact d_in hu I2 g ry fun s3 I3 => ⟨.bl ov.isSome, H2, I3, rfl, q2⟩
theorem pc_dnotin (hu : X.A.units + 1 < cLine) (hi : PE X i ty) (ho : PE X o td) : PC X .NotIn i o (tDNotIn ty td) := by
  intro pins s σ H Q I h
  refine thn (hi pins s σ H _ I h) fun iv s1 ⟨y, H1, I1, ry, q1⟩ => thn (ho pins s1 σ H1 _ I1 q1) fun u s2 ⟨x, H2, I2, rx, a, ov, ex, g, q2⟩ => ?_
  subst ex
  obtain rfl : u = Value.ref a := rx
  exact d_notIn hu I2 g ry fun s3 I3 => ⟨.bl (!ov.isSome), H2, I3, rfl, q2⟩
theorem ps_dput (hu : X.A.units + 1 < cLine) (ho : PE X o td) (hi : PE X i ty) (hv : PE X value tv) (hs : swapsWith value (some (.Subscript o i pos')) pos.line X.env = pure false) :
    PS X (.Assign [.Subscript o i pos'] value pos) (sDPut td ty tv) := by
  intro pins s σ H D I h
  refine wpAny_Assign_Subscript (thn (hv pins s σ H _ I h) fun r s1 ⟨v, H1, I1, rv, q1⟩ => thn (ho pins s1 σ H1 _ I1 q1) fun u s2 ⟨x, H2, I2, rx, q2⟩ => thn (hi pins s2 σ H2 _ I2 q2) fun iv s3 ⟨y, H3, I3, ry, a, H4, ex, g, q3⟩ => ?_) hs
  subst ex
  obtain rfl : u = Value.ref a := rx
  exact d_setItem hu I3 g ry rv fun s4 I4 => ⟨σ, H4, I4, q3⟩
end
theorem dk_empty {P : Program} {w : World} {H : Hp} (h : Heap) (hb : sysModules < h.objs.size) : ObjOk P w H (h.push { cls := .type "dict", data := .dict #[] }) h.objs.size (.dK []) :=
  ⟨Nat.zero_le _, beq_eq_false_iff_ne.mpr (Ne.symm (Nat.ne_of_lt hb)), [], .nil, Heap.DictOf.new h⟩
def tDNewK : TE := fun _ H Q => ∀ p, H p = none → Q (.ref p) (upd H p (.dK []))
section
variable {X : Cx} {pos : Pos}
theorem pe_dnewK : PE X (.Dict [] [] pos) tDNewK := fun pins s σ H Q I h =>
  wpAny_Dict_empty ⟨.ref s.heap.objs.size, _, I.laid (a := s.heap.objs.size) (o := .dK []) (t' := s.toks) (fun _ _ q => Heap.get?_push_of_some _ q) (Nat.le_refl _) (dk_empty s.heap I.big), rfl, h _ (I.hok.fresh (Nat.le_refl _))⟩
end
structure M1 (X : Cx) (o : Expr) (m : Str) (apos : Pos) (e : Expr) (cpos : Pos) : Prop where
  base : attributeBase o m X.env (eval o X.env) = eval o X.env
  few : ((backTo cpos (starEach [e] X.env)).all (fun x => !x.1) && (backToKw cpos (keywordEach [] X.env)).all (fun x => x.1.isSome)
    && decide (([e] : List Expr).length + ([] : List Keyword).length + (if ([] : List Keyword).isEmpty then 0 else 1) < 30)) = true
  line : (apos.endLine == cpos.line) = true
  trees : backTo cpos (starEach [e] X.env) = [(false, eval e X.env)]
def IsD (H : Hp) (a : Addr) : Prop := (∃ kvs, Rd H a (.dK kvs)) ∨ ∃ kvs, Rd H a (.dT kvs)
theorem isD_at {X : Cx} {pins : List (Addr × Obj)} {σ : St} {H : Hp} {s : Shared} {a : Addr} (I : Inv X pins σ H s) (d : IsD H a) :
    s.TypeIs (.ref a) "dict" ∧ (∀ b, Value.ref a = .ref b → ∃ ob, s.heap.get? b = some ob ∧ ob.dict = none) ∧ (a == sysModules) = false := by
  rcases d with ⟨kvs, e⟩ | ⟨kvs, e⟩
  · obtain ⟨_, hd, vs, _, dd⟩ := dk_rd I.hok e
    refine ⟨dd.typeIs, fun b q => ?_, hd⟩
    cases q
    obtain ⟨ob, _, _, h1, h2, _⟩ := dd
    exact ⟨ob, h1, h2.2.1⟩
  · obtain ⟨_, hd, xs, _, dd⟩ := dt_rd I.hok e
    refine ⟨dd.typeIs, fun b q => ?_, hd⟩
    cases q
    obtain ⟨ob, _, _, h1, h2, _⟩ := dd
    exact ⟨ob, h1, h2.2.1⟩
section
variable {X : Cx} {pins : List (Addr × Obj)} {σ : St} {H : Hp} {s : Shared} {a : Addr} {y d : V} {u r : Value} {o : Option V} {A : Around} {E : Value → Shared → Prop}
end
def tDPop1 (td ty : TE) : TE := fun σ H Q => td σ H fun x H1 => ∃ a, x = .ref a ∧ IsD H1 a ∧ ty σ H1 fun y H2 => ∃ kvs k v, H2 a = some (.dK kvs) ∧ y = kV k ∧ valV kvs k = some v ∧ Q v (upd H2 a (.dK (dropK kvs k)))
section
variable {X : Cx} {o e f : Expr} {apos cpos : Pos} {td ty tx : TE}
theorem pe_dpop1 (ho : PE X o td) (he : PE X e ty) (m : M1 X o "pop" apos e cpos) : PE X (.Call (.Attribute o "pop" apos) [e] [] cpos) (tDPop1 td ty) := by
  intro pins s σ H Q I h
  refine wpAny_Call_method m.base m.few m.line PySem.F.plainAttrs_dict PySem.F.slot_dict_pop PySem.F.type_dict_pop (thn (ho pins s σ H _ I h) fun u s1 ⟨x, H1, I1, rx, a, ex, d, q1⟩ => ?_)
  subst ex
  obtain rfl : u = Value.ref a := rx
  obtain ⟨t1, t2, _⟩ := isD_at I1 d
  refine ⟨t1, t2, ?_⟩
  rw [m.trees]
  refine Calls.callWith_builtin rfl (Calls.evalArgs_plain (Calls.spliced_cons (thn (he pins s1 σ H1 _ I1 q1) fun iv s2 ⟨y, H2, I2, ry, kvs, k, v, ea, ey, l, q2⟩ => Calls.spliced_nil ?_)))
  subst ey
  exact d_pop I2 ea ry l (.inl rfl) fun w' s3 I3 rw' => ⟨v, _, I3, rw', q2⟩
end
section
variable {X : Cx} {pins : List (Addr × Obj)} {σ : St} {H : Hp} {s : Shared} {a : Addr} {kvs : List (Key × V)} {A : Around} {E : Value → Shared → Prop}
end
section
variable {X : Cx} {pins : List (Addr × Obj)} {σ : St} {H : Hp} {s : Shared} {a : Addr} {y : V} {u : Value} {A : Around} {E : Value → Shared → Prop}
end
end L2
namespace L2
open PySem PySem.Spec PyProof.Rows
section
variable {prog : Program} {w : World} {A : Around} {E : Value → Shared → Prop}
end
section
variable {X : Cx}
end
end L2
namespace L2
open PySem PySem.Spec PyProof.Rows
section
variable {X : Cx} {pins : List (Addr × Obj)} {σ : St} {H : Hp} {s : Shared} {h' : Heap}
theorem Inv.turnedNew {t' : Nat} {ch : List Addr} {T : Addr} {ob : HO} (I : Inv X pins σ H s) (k : ∀ b o, b ∉ ch → s.heap.get? b = some o → h'.get? b = some o) (hf : ∀ b ∈ ch, FpOk X pins H b) (hT : s.heap.objs.size ≤ T)
    (new : ObjOk X.prog X.w (upd H T ob) h' T ob) : Inv X pins σ (upd H T ob) { s with heap := h', toks := t' } := by
  have hn : H T = none := I.hok.fresh hT
  have nit : ∀ b u, H b = some u → b ∉ ch := fun b u e z => by
    have q := (hf b z).1
    rw [q] at e; cases e
  refine I.step (g' := s.gens) (d' := s.drawn) (ch := ch) (fun b hb => ⟨(hf b hb).2.2.2.1, (hf b hb).2.1, (hf b hb).2.2.2.2.1, (hf b hb).2.2.2.2.2⟩) (fun b o _ _ hc e _ => k b o hc e) (fun b o _ _ hc e _ => ⟨o.slots, k b o hc e⟩)
    (fun b o _ e n => ?_) (fun b o hc e => ⟨o, k b o hc e⟩) (fun b xs e => ?_) (fun b o u e => ?_) (fun b ps e => ⟨#[], ?_⟩) (fun m hm => ?_) (fun b u e => ?_) I.bare
  · rw [upd_ne (Nat.ne_of_lt (Nat.lt_of_lt_of_le (Heap.lt_size e) hT))]; exact n
  · rw [upd_ne (ne_of_none e hn)]; exact e
  · rw [upd_ne (ne_of_none e hn)]; exact e
  · rw [upd_ne (ne_of_none e hn), e]; simp
  · obtain ⟨o, es, ep, ho, r⟩ := hm
    exact ⟨o, es, ep, k _ o (fun z => (hf _ z).2.1 rfl) ho, r⟩
  · by_cases hb : b = T
    · subst hb
      rw [upd_same] at e
      cases e
      exact new
    · rw [upd_ne hb] at e
      refine (I.hok b u e).stay (fun c v hc q => k c v ?_ q) (fun c q => by rw [upd_ne (ne_of_none q hn)]; exact q) fun c xs q => by rw [upd_ne (ne_of_none q hn)]; exact q
      rcases hc with z | z
      · rw [z]; exact nit b u e
      · exact nit c _ z
end
section
variable {X : Cx}
theorem pi_one {tg : Expr} {pins : List (Addr × Obj)} {σ : St} {H : Hp} {s : Shared} {R : It → Hp → Prop} {J : It} {tn : Nat → Heap → Prop} {tk : Nat} (I : Inv X pins σ H s) (o : Obj)
    (T : Turn X.prog X.w X.K tg J [s.heap.objs.size] s.heap.objs.size tn) (st : tn 0 (s.heap.push o)) (q : R J H) : PIE X pins σ tg R (.ref s.heap.objs.size) { s with heap := s.heap.push o, toks := tk } := by
  refine ⟨s.heap.objs.size, [s.heap.objs.size], tn, J, H, rfl, I.kept fun b ob e => Heap.get?_push_of_some _ e, T, st, fun b hb => ?_, q⟩
  have e : b = s.heap.objs.size := by simpa using hb
  subst e
  exact I.fpOk (Nat.le_refl _) (I.hok.fresh (Nat.le_refl _))
end
def Itc (lo c : Int) (n : Nat) : It := ⟨fun i _ => i < n, fun i H x H' => H' = H ∧ x = .int (lo + (i : Nat) * c), fun i _ => n ≤ i⟩
theorem turn_rangeC {P : Program} {w : World} {K : PySem.W.Frag} {tg : Expr} (it : Addr) (lo c : Int) (n : Nat) : Turn P w K tg (Itc lo c n) [it] it (fun i h => IsRangeIter h it (lo + (i : Nat) * c) ((n : Int) - (i : Nat)) c) where
  mem := by simp
  obj := fun i h st b hb => by
    have e : b = it := by simpa using hb
    subst e
    exact ⟨_, st, fun v z => nomatch z⟩
  keep := fun i h h' st k => k it (by simp) _ st
  item := by
    intro X hP hw hK hc i pins s σ H E I hf st hg
    subst hP hw hK
    obtain ⟨f0, f1, f2, f3, f4, f5⟩ := hf it (by simp)
    have W := Walks.range (prog := X.prog) (w := X.w) (I.ok.hd hc) it lo c n
    refine W.item i s _ _ hg st fun v h' tk hv st' kk => ?_
    obtain ⟨t, rfl⟩ := hv
    have I1 : Inv X pins σ H { s with heap := h', toks := tk } := I.turned (fun b o hb e => kk b o (by simpa using hb) e) f0 f1 f3 f4 f5
    exact ⟨_, rfl, go_of (s := { s with heap := h', toks := tk }) (n := "range_iterator") st' rfl rfl (by decide) ⟨.int (lo + (i : Nat) * c), H, I1, ⟨t, rfl⟩, ⟨rfl, rfl⟩, st', fun b hb => (hf b hb).1⟩⟩
  done := by
    intro X hP hw hK hc i pins s σ H E I hf st hg
    subst hP hw hK
    obtain ⟨f0, f1, f2, f3, f4, f5⟩ := hf it (by simp)
    exact wpAny_pyNext_range_end (I.ok.hd hc) st (by have : n ≤ i := hg; omega) fun h' eb => ⟨rfl, I.turned (t' := s.toks) (fun b o hb e => eb b o hb e) f0 f1 f3 f4 f5⟩
  self := fun A i s Q E st h => wpAny_pyIter_rangeiter st h
def RgC (i j c : Int) (n : Nat) : Prop := c ≠ 0 ∧ c.natAbs < 1073741824 ∧ Builtin.Range.small i j c = true ∧ Builtin.Range.rangeSize i j c = n
def iRng3 (ta : TA) : TI := fun σ H R => ta σ H fun vs H1 => ∃ (i j c : Int) (n : Nat), vs = [.int i, .int j, .int c] ∧ RgC i j c n ∧ R (Itc i c n) H1
section
variable {X : Cx} {tg : Expr}
theorem pi_range3 {a b c : Expr} {ta : TA} {p pos : Pos} (hg : Gl X "range") (hm : X.mg "range" = none) (ha : PA X [a, b, c] ta)
    (hs : starEach [a, b, c] X.env = (false, eval a X.env) :: starEach [b, c] X.env := by rfl) (hpl : (backTo pos (starEach [b, c] X.env)).any (·.1) = false := by rfl) :
    PI X tg (.Call (.Name "range" p) [a, b, c] [] pos) (iRng3 ta) := by
  intro pins s σ H R I h
  refine Call_ (ld_blt I hg hm boot_range (PyProof.Rows.callWith_type1 (thn (ha pos pins s σ H _ I h) fun us s1 ⟨vs, H1, I1, r1, q1⟩ => ?_) hs hpl))
  obtain ⟨i, j, k, n, e, ⟨c0, c1, c2, c3⟩, q⟩ := q1
  subst e
  cases r1 with
  | cons r rr =>
    cases rr with
    | cons r' rr =>
      cases rr with
      | cons r'' rr =>
        cases rr
        obtain ⟨t, rfl⟩ := r
        obtain ⟨t', rfl⟩ := r'
        obtain ⟨t'', rfl⟩ := r''
        refine call_range_3 c0 ?_ (.inl (PyProof.noPylong_small c1))
        refine wpAny_pyIter_range (IsRange.new ..) c2 ?_
        have I2 : Inv X pins σ H1 { s1 with heap := s1.heap.push { cls := .type "range", data := .fields #[.int i t, .int j t', .int k t''] } } := I1.kept (t' := s1.toks) fun b o e => Heap.get?_push_of_some _ e
        refine pi_one (tk := s1.toks) I2 _ (turn_rangeC _ i k n) ?_ q
        have e1 : i + ((0 : Nat) : Int) * k = i := by simp
        have e2 : (n : Int) - ((0 : Nat) : Int) = Builtin.Range.rangeSize i j k := by rw [c3]; simp
        show IsRangeIter _ _ (i + ((0 : Nat) : Int) * k) ((n : Int) - ((0 : Nat) : Int)) k
        rw [e1, e2]
        exact Heap.get?_push_size _ rfl
end
theorem for_rangeC {lo c : Int} {n : Nat} {g : TG} {tb : TS} {D : Ends} {σ : St} {H : Hp} (Pv : Nat → St → Hp → Prop) (h0 : Pv 0 σ H)
    (hs : ∀ i σ H, i < n → Pv i σ H → g (.int (lo + (i : Nat) * c)) σ H fun σ2 H2 => tb { D with nx := Pv (i + 1), ct := Pv (i + 1), bk := D.nx } σ2 H2) (hd : ∀ σ H, Pv n σ H → D.nx σ H) :
    ∃ W : Nat → Nat → St → Hp → Prop, (∃ m, W 0 m σ H) ∧ ∀ i m σ H, W i m σ H →
      ((Itc lo c n).stop i H ∧ D.nx σ H) ∨ ((Itc lo c n).go i H ∧ ∃ N : St → Hp → Prop, (∀ σ' H', N σ' H' → ∃ m', m' < m ∧ W (i + 1) m' σ' H') ∧ ∀ x H', (Itc lo c n).yld i H x H' → g x σ H' fun σ2 H2 => tb { D with nx := N, ct := N, bk := D.nx } σ2 H2) := by
  refine ⟨fun i m σ H => m = n - i ∧ i ≤ n ∧ Pv i σ H, ⟨n, by simp, Nat.zero_le _, h0⟩, ?_⟩
  rintro i m σ H ⟨rfl, hi, p⟩
  by_cases hlt : i < n
  · refine .inr ⟨hlt, Pv (i + 1), fun σ' H' p' => ⟨n - (i + 1), by omega, rfl, hlt, p'⟩, fun x H' y => ?_⟩
    obtain ⟨e, y⟩ := y
    subst e y
    exact hs i σ _ hlt p
  · have e : i = n := by omega
    subst e
    exact .inl ⟨Nat.le_refl _, hd σ H p⟩
section
variable {X : Cx} {tg : Expr}
end
section
variable {prog : Program} {w : World} {A : Around} {E : Value → Shared → Prop} {s : Shared}
end
theorem paired_get {α β : Type} {G : α → β → Prop} {l₁ : List α} {l₂ : List β} (h : Paired G l₁ l₂) : ∀ {i : Nat} {a : α}, l₁[i]? = some a → ∃ b, l₂[i]? = some b ∧ G a b := by
  induction h with
  | nil => intro i a e; simp at e
  | @cons a b l₁ l₂ r t ih =>
    intro i a' e
    cases i with
    | zero =>
      simp only [List.getElem?_cons_zero, Option.some.injEq] at e
      subst e
      exact ⟨b, rfl, r⟩
    | succ j =>
      simp only [List.getElem?_cons_succ] at e ⊢
      exact ih e
section
variable {X : Cx} {pins : List (Addr × Obj)} {σ : St} {H : Hp} {s : Shared} {d : Addr} {o : Obj}
end
section
variable {P : Program} {w : World} {K : PySem.W.Frag} {tg : Expr} {d : Addr} {o : Obj} {es : Array DictEntry} {ep : Nat}
end
section
variable {X : Cx} {tg e : Expr} {td : TE} {apos cpos : Pos}
end
def Ite (K : PySem.W.Frag) (a : Addr) : It :=
  ⟨fun i H => ∃ (xs : List V) (x : V), SqL K H a xs ∧ xs[i]? = some x, fun i H v H' => ∃ T x, v = .ref T ∧ H T = none ∧ H' = upd H T (.tup [.int (i : Nat), x]) ∧ ∀ xs, SqL K H a xs → xs[i]? = some x, fun i H => ∃ xs : List V, SqL K H a xs ∧ xs.length ≤ i⟩
theorem turn_enum {P : Program} {w : World} {K : PySem.W.Frag} {elts : List Expr} {kk : Nat} {tpos : Pos} (a e it : Addr) :
    Turn P w K (.Tuple elts kk tpos) (Ite K a) [e, it] e (fun i h => (∃ old, IsEnum h e it ((i : Nat) : Int) old) ∧ h.IsListIter it a i ∧ e ≠ it) where
  mem := by simp
  obj := fun i h st b hb => by
    obtain ⟨⟨old, he⟩, ⟨o, ho, hc, hd⟩, _⟩ := st
    have e' : b = e ∨ b = it := by simpa using hb
    rcases e' with z | z
    · rw [z]; exact ⟨_, he, fun v q => nomatch q⟩
    · rw [z]; exact ⟨o, ho, fun v q => by rw [hd] at q; cases q⟩
  keep := fun i h h' st k => let ⟨⟨old, he⟩, hi, hne⟩ := st; ⟨⟨old, k e (by simp) _ he⟩, hi.at fun o q => k it (by simp) o q, hne⟩
  item := by
    intro X hP hw hK hc i pins s σ H E I hf st hg
    subst hP hw hK
    obtain ⟨⟨old, he⟩, hit, hne⟩ := st
    obtain ⟨xs, x, hq, hx⟩ := hg
    obtain ⟨its, rv, p, hz⟩ := I.list hq
    obtain ⟨u, hu, ru⟩ := rv.get hx
    have hel : e < s.heap.objs.size := Heap.lt_size he
    have hil : it < s.heap.objs.size := by obtain ⟨_, q, _⟩ := hit; exact Heap.lt_size q
    refine wpAny_pyNext_enum_item he hit p.isList (x := u) (by simpa using hu) hne fun h' ho hit' hT hsz hk => ?_
    refine ⟨_, rfl, wpAny_letOwnedTupleGo_enum (s := { s with heap := h', toks := s.toks + 1 }) ho fun h'' he' sb => ?_⟩
    have hT2 : h''.get? s.heap.objs.size = some { cls := .type "tuple", data := .seq #[.int i s.toks, u] } := (sb.2 _ (Nat.ne_of_gt hel)).trans hT
    have new : ObjOk X.prog X.w (upd H s.heap.objs.size (.tup [.int (i : Nat), x])) h'' s.heap.objs.size (.tup [.int (i : Nat), x]) :=
      ⟨by show 2 ≤ sizeLine; decide, [.int i s.toks, u], .cons ⟨_, rfl⟩ (.cons ru .nil), ⟨_, hT2, rfl, _, rfl⟩⟩
    have I1 : Inv X pins σ (upd H s.heap.objs.size (.tup [.int (i : Nat), x])) { s with heap := h'', toks := s.toks + 1 } :=
      I.turnedNew (ch := [e, it]) (fun b ob hb q => (sb.2 b (fun z => hb (by simp [z]))).trans (hk b ob (fun z => hb (by simp [z])) (fun z => hb (by simp [z])) q)) hf (Nat.le_refl _) new
    refine ⟨.ref s.heap.objs.size, _, I1, rfl, ⟨_, x, rfl, I.hok.fresh (Nat.le_refl _), rfl, fun ys hy => by rw [I.list_inj hy hq]; exact hx⟩, ⟨⟨u, ?_⟩, hit'.at fun o q => (sb.2 it (Ne.symm hne)).trans q, hne⟩, fun b hb => ?_⟩
    · have e1 : ((i + 1 : Nat) : Int) = (i : Int) + 1 := by omega
      rw [e1]; exact he'
    · have hb' : b < s.heap.objs.size := by
        have e' : b = e ∨ b = it := by simpa using hb
        rcases e' with z | z
        · rw [z]; exact hel
        · rw [z]; exact hil
      rw [upd_ne (Nat.ne_of_lt hb')]
      exact (hf b hb).1
  done := by
    intro X hP hw hK hc i pins s σ H E I hf st hg
    subst hP hw hK
    obtain ⟨⟨old, he⟩, hit, hne⟩ := st
    obtain ⟨xs, hq, hx⟩ := hg
    obtain ⟨its, rv, p, hz⟩ := I.list hq
    obtain ⟨f0, f1, f2, f3, f4, f5⟩ := hf it (by simp)
    have hl := rv.length
    exact wpAny_pyNext_enum_end (I.ok.hd hc) he hit p.isList (by simp; omega) fun h' eb => ⟨rfl, I.turned (t' := s.toks) (fun b o hb q => eb b o hb q) f0 f1 f3 f4 f5⟩
  self := fun A i s Q E st h => let ⟨⟨_, he⟩, _⟩ := st; wpAny_pyIter_enum he h
def iEnum (K : PySem.W.Frag) (ta : TA) : TI := fun σ H R => ta σ H fun vs H1 => ∃ a xs, vs = [.ref a] ∧ SqL K H1 a xs ∧ R (Ite K a) H1
theorem pi_enum {X : Cx} {e : Expr} {ta : TA} {p pos tpos : Pos} {elts : List Expr} {kk : Nat} (hg : Gl X "enumerate") (hm : X.mg "enumerate" = none) (ha : PA X [e] ta) (hs : starEach [e] X.env = [(false, eval e X.env)] := by rfl) :
    PI X (.Tuple elts kk tpos) (.Call (.Name "enumerate" p) [e] [] pos) (iEnum X.K ta) := by
  intro pins s σ H R I h
  refine Call_ (ld_blt I hg hm boot_enumerate (PyProof.Rows.callWith_type1 (thn (ha pos pins s σ H _ I h) fun us s1 ⟨vs, H1, I1, r1, q1⟩ => ?_) hs rfl))
  obtain ⟨a, xs, ex, hq, q⟩ := q1
  subst ex
  cases r1 with
  | cons r rr =>
    cases rr
    cases r
    obtain ⟨its, rv, p', hz⟩ := I1.list hq
    refine call_enumerate_list p'.isList fun h' he hit hsz hk => wpAny_pyIter_enum he ?_
    have I2 : Inv X pins σ H1 { s1 with heap := h' } := I1.kept (t' := s1.toks) hk
    refine ⟨s1.heap.objs.size + 1, [s1.heap.objs.size + 1, s1.heap.objs.size], _, _, H1, rfl, I2, turn_enum a (s1.heap.objs.size + 1) s1.heap.objs.size, ⟨⟨.none, he⟩, hit, Nat.succ_ne_self _⟩, fun b hb => ?_, q⟩
    have e' : b = s1.heap.objs.size + 1 ∨ b = s1.heap.objs.size := by simpa using hb
    have hle : s1.heap.objs.size ≤ b := by
      rcases e' with z | z
      · rw [z]; exact Nat.le_add_right _ _
      · rw [z]; exact Nat.le_refl _
    exact I1.fpOk hle (I1.hok.fresh hle)
end L2
section
namespace Bits
open PySem PyProof.Rows
end Bits
end
section
namespace TL
open PySem PySem.Builtin PySem.Builtin.Str PySem.StrLaws
end TL
end
namespace L2
open PySem PySem.Spec PyProof.Rows
section
variable {X : Cx} {pins : List (Addr × Obj)} {σ : St} {H : Hp} {s : Shared} {Q : VK}
end
section
variable {X : Cx}
end
section
variable {X : Cx} {o e : Expr} {to te : TE}
end
end L2
namespace L2
open PySem PySem.Spec PyProof.Rows
section
variable {X : Cx}
end
end L2
namespace Att
open PySem PySem.W PySem.Calls PyProof.Rows
section
variable {prog : Program} {w : World} {A : Around} {E : Value → Shared → Prop} {s : Shared} {K : Frag}
end
end Att
namespace L2
open PySem PySem.Spec PyProof.Rows
end L2
namespace L2
open PySem PySem.Spec PyProof.Rows
end L2
/- THE LAST THEOREM (shape; LID, My.* are yours):
   My.Adr: a structure of the addresses that your layer names (classes, functions); My.Txt K t: a structure (Prop) of the equations over K;
   My.txt_mk : {K} {implicit addresses ..} (e1 : nsIn K mainGlobals "law" = some (some (.ref f))) (e2 : K.lookup f = some ⟨oc, od, .func (fnOf "law" "law" params body scope dV kV doc pm an cdv ct), sl⟩) (e3 : codeIn K cdv "law" = true) .. : ∃ t, My.Txt K t
set_option maxRecDepth 100000 in
set_option maxHeartbeats 0 in
theorem PySem.Challenge.cw_LID_holds : PySem.Challenge.rw_LID.Holds := by
  w_on; o_law; k_head; (case hw => w_witness2)
  k_fill
  refine L2.walk_of (l := PySem.Challenge.rw_LID) (n := 63) (k := 40) (x := "script") (CX := fun w => ..) (sp := fun _ => My.sp_law) rfl (by decide) rfl ⟨rfl, by decide, by decide⟩ (fun w h Y => PySem.W.kIn_of Y) ?F ?S ?C
  case F =>
    intro w mg fa h KX G hmg
    have T : ∃ t, My.Txt (L2.KOf KX) t := by
      dsimp only [L2.KOf]                          -- K must stand as «<heap const> w.params» for k_is
      refine' My.txt_mk ?e1 ?e2 ?e3 ..
      (case e1 => PySem.W.k_is)                    -- in the order: a name -> its address -> its object -> its parts
      (case e2 => PySem.W.k_is)
      ..
    obtain ⟨t, T⟩ := T
    have e0 := hmg.symm.trans (PySem.W.mg_of KX G T.law)
    cases e0                                       -- fa is the law's own address
    exact ⟨_, fun s u => .of_eq rfl, fun base kb nb => My.law_fn T kb nb⟩     -- if «.of_eq rfl» comes too early: refine' ⟨_, ?b, fun base kb nb => My.law_fn T kb nb⟩; exact fun s u => .of_eq rfl
  case S => exact fun w H a ns hl hO hS => ..
  case C => exact ..
(the tactic k_is has no namespace: write k_is) -/
namespace L2
open PySem PySem.Spec PyProof.Rows
def inClass (s : Stmt) (j : Nat) : Stmt := match s with
  | .ClassDef _ _ _ body _ _ _ _ _ _ _ => body.getD j (.Pass ⟨0, 0, 0, 0⟩)
  | _ => .Pass ⟨0, 0, 0, 0⟩
def defArgs (s : Stmt) : Arguments := match s with
  | .FunctionDef _ a _ _ _ _ _ _ _ _ => a
  | _ => { posonlyargs := [], args := [], vararg := none, kwonlyargs := [], kw_defaults := [], kwarg := none, defaults := [] }
def defBody (s : Stmt) : List Stmt := match s with
  | .FunctionDef _ _ b _ _ _ _ _ _ _ => b
  | _ => []
def defScope (s : Stmt) : Scope := match s with
  | .FunctionDef _ _ _ _ _ _ sc _ _ _ => sc
  | _ => { kind := .function, names := [], isGenerator := false, isCoroutine := false }
abbrev CX0 : CXT := fun _ _ _ _ _ _ => False
abbrev E0 : XK := fun _ _ _ => False
theorem pass0 {X : Cx} : Passes CX0 X E0 := fun _ _ _ _ _ _ _ h => h.elim
structure Fun (K : PySem.W.Frag) (x qual : Str) (st : Stmt) (f : Addr) (fd : FuncData) : Prop where
  ex : ∃ (oc : Value) (od : Option Addr) (kV doc pm : Value) (an : Option Addr) (cdv ct : Value) (osl : Array (Option Value)),
    fd = PySem.W.fnOf x qual (defArgs st) (defBody st) (defScope st) .none kV doc pm an cdv ct ∧ K.lookup f = some ⟨oc, od, .func fd, osl⟩ ∧ PySem.W.codeIn K cdv qual = true
  kp : PySem.W.keepIn K (.ref f) = true
section
variable {P : Program} {w : World} {K : PySem.W.Frag} {mg : Str → Option Value} {base : Heap}
theorem Fun.ok {x qual : Str} {st : Stmt} {f : Addr} {fd : FuncData} {N ps : List Str} {k : Nat} {sp : Sp} (F : Fun K x qual st f fd) (S : FnScope N ps (defScope st)) (len : ∀ vs H Q E, sp vs H Q E → vs.length = ps.length)
    (hbody : ∀ (cdv : Value) (A : Around) (outer : List Env) (s : Shared) (H : Hp) (vs : List V) (Q : VK) (E : XK), Room k (A.deeper (envOfC qual (defScope st) s.heap.objs.size f cdv)) → sp vs H Q E →
      ∃ t, PSs (cxOf CX0 P w K mg base N qual (defScope st) f cdv A outer s H E).nox (defBody st) t ∧ t { nx := fun _ H' => Q .non H', rt := Q } (start N vs) H) : FnOk P w K mg base CX0 (k + 1) f fd ps sp := by
  obtain ⟨oc, od, kV, doc, pm, an, cdv, ct, osl, rfl, lk, hcd⟩ := F.ex
  refine fn_of lk hcd S len fun A outer s H vs Q E hr hsp => ?_
  obtain ⟨t, h, q⟩ := hbody cdv A outer s H vs Q E hr hsp
  exact ⟨t, h.nox, q⟩
theorem Fun.binds {x qual : Str} {st : Stmt} {f : Addr} {fd : FuncData} {ps : List Str} (F : Fun K x qual st f fd)
    (h : ∀ (kV doc pm : Value) (an : Option Addr) (cdv ct : Value) (us : List Value), us.length = ps.length → bindArgs (PySem.W.fnOf x qual (defArgs st) (defBody st) (defScope st) .none kV doc pm an cdv ct) ⟨us, []⟩ = pure (ps.zip us)) : Binds K fd ps [] := by
  obtain ⟨oc, od, kV, doc, pm, an, cdv, ct, osl, rfl, lk, hcd⟩ := F.ex
  exact .all (h kV doc pm an cdv ct)
theorem fun_mk {x qual : Str} {st : Stmt} {f : Addr} {oc : Value} {od an : Option Addr} {osl : Array (Option Value)} {kV doc pm cdv ct : Value} (l : K.lookup f = some ⟨oc, od, .func (PySem.W.fnOf x qual (defArgs st) (defBody st) (defScope st) .none kV doc pm an cdv ct), osl⟩)
    (c : PySem.W.codeIn K cdv qual = true) (k : PySem.W.keepIn K (.ref f) = true) : Fun K x qual st f (PySem.W.fnOf x qual (defArgs st) (defBody st) (defScope st) .none kV doc pm an cdv ct) := ⟨⟨oc, od, kV, doc, pm, an, cdv, ct, osl, rfl, l, c⟩, k⟩
end
section
variable {X : Cx}
theorem pv (i : Nat) {x : Str} {pos : Pos} (hN : X.N[i]? = some x := by rfl) (hv : Vis X.env.scope x := by first | exact Or.inl rfl | exact Or.inr (Or.inl rfl) | exact Or.inr (Or.inr rfl)) (hd : (x == ("__debug__" : Str)) = false := by decide)
    (hcd : (x == ("__classdict__" : Str)) = false := by decide) : PE X (.Name x pos) (tVar i) := pe_var hN hv hd hcd
theorem call_lenD : CallR X (.builtin "len") (fun xs H Q => ∃ a kvs, xs = [V.ref a] ∧ H a = some (.dK kvs) ∧ Q (.int kvs.length) H) := by
  intro pins s σ H xs us Q I r h
  obtain ⟨a, kvs, rfl, ha, q⟩ := h
  obtain ⟨u, rfl, ru⟩ := vals1 r
  cases ru
  exact d_len I (.inl ha) fun t s' I' => ⟨.int kvs.length, H, I', ⟨t, rfl⟩, q⟩
end
theorem ite2 {c A B : Prop} [Decidable c] (h1 : c → A) (h2 : ¬ c → B) : if c then A else B := by
  by_cases h : c
  · rw [if_pos h]
    exact h1 h
  · rw [if_neg h]
    exact h2 h
def Same (H H' : Hp) : Prop := ∀ b o, H b = some o → H' b = some o
theorem Same.refl (H : Hp) : Same H H := fun _ _ h => h
theorem Same.trans {H H1 H2 : Hp} (a : Same H H1) (b : Same H1 H2) : Same H H2 := fun c o h => b c o (a c o h)
theorem Same.free {H H' : Hp} (e : Same H H') {l : Addr} (h : H' l = Option.none) : H l = Option.none := by
  cases q : H l with
  | none => rfl
  | some o =>
    rw [e l o q] at h
    cases h
theorem Same.seq {K : PySem.W.Frag} {H H' : Hp} {a : Addr} {xs : List V} (e : Same H H') (h : SqL K H a xs) : SqL K H' a xs := by
  rcases h with (h | ⟨o, h⟩) | h
  · exact .inl (.inl (e _ _ h))
  · exact .inl (.inr ⟨o, e _ _ h⟩)
  · exact .inr h
section
variable {κ : Type} [DecidableEq κ]
theorem nd_snoc : ∀ {l : List κ} {k : κ}, l.Nodup → ¬ k ∈ l → (l ++ [k]).Nodup
  | [], k, _, _ => by simp
  | a :: r, k, h, hk => by
    obtain ⟨h1, h2⟩ := List.nodup_cons.mp h
    show (a :: (r ++ [k])).Nodup
    refine List.nodup_cons.mpr ⟨fun m => ?_, nd_snoc h2 fun m => hk (List.mem_cons.mpr (Or.inr m))⟩
    rcases List.mem_append.mp m with q | q
    · exact h1 q
    · exact hk (List.mem_cons.mpr (Or.inl (List.mem_singleton.mp q).symm))
end
theorem at_of {xs : List V} {z : Int} {j : Nat} {v : V} (e : z = (j : Int)) (h : xs[j]? = some v) : atI xs z = some v := by
  rw [e]
  exact atI_nat h
theorem Same.made {H H1 : Hp} {x dx C : Addr} (nx : H x = Option.none) (nd : H dx = Option.none) (k : ∀ b o, (upd (upd H dx (.own x)) x (.ins C dx [])) b = some o → b ≠ x → H1 b = some o) : Same H H1 := fun b o e =>
  k b o (by rw [upd_ne (ne_of_none e nx), upd_ne (ne_of_none e nd)]; exact e) (ne_of_none e nx)
end L2
end

section
set_option Elab.async false
set_option linter.all false
set_option maxRecDepth 100000
section
set_option Elab.async false
set_option linter.all false
set_option maxRecDepth 100000
set_option maxHeartbeats 2000000
namespace L2
open PySem PySem.Spec PyProof.Rows
open PySem.W (WData Codec OpenSpec Well WellAll ReadsW ReadsAllW)
mutual
inductive Dw (K : PySem.W.Frag) (H : Hp) : V → WData → Prop
  | non : Dw K H .non .none
  | bl (b : Bool) : Dw K H (.bl b) (.bool b)
  | int (i : Int) : Dw K H (.int i) (.int i)
  | str (x : Str) : Dw K H (.str x) (.str x)
  | byt (b : Array UInt8) : Dw K H (.byt b) (.bytes b.toList)
  | lst {a : Addr} {xs : List V} {ds : List WData} : SqL K H a xs → DwAll K H xs ds → Dw K H (.ref a) (.list ds)
  | tup {a : Addr} {xs : List V} {ds : List WData} : SqT K H a xs → DwAll K H xs ds → Dw K H (.ref a) (.tuple ds)
inductive DwAll (K : PySem.W.Frag) (H : Hp) : List V → List WData → Prop
  | nil : DwAll K H [] []
  | cons {v : V} {vs : List V} {d : WData} {ds : List WData} : Dw K H v d → DwAll K H vs ds → DwAll K H (v :: vs) (d :: ds)
end
theorem dw_ints {K : PySem.W.Frag} {H : Hp} : ∀ ns : List Int, DwAll K H (ns.map V.int) (ns.map WData.int)
  | [] => .nil
  | n :: r => .cons (.int n) (dw_ints r)
theorem ints_dw {K : PySem.W.Frag} {H : Hp} : ∀ (ns : List Int) (xs : List V), DwAll K H xs (ns.map WData.int) → xs = ns.map V.int
  | [], xs, h => by
    cases h
    rfl
  | n :: r, xs, h => by
    cases h with
    | cons h1 h2 =>
      cases h1
      rw [ints_dw r _ h2] <;> rfl
section
variable {P : Program} {w : World} {K : PySem.W.Frag} {H : Hp} {h : Heap} {R : PySem.W.WRecords} {cl : Str → Option Addr}
theorem sqL_at {a : Addr} {xs : List V} (hok : HOk P w H h) (KX : K.In h) (q : SqL K H a xs) : ∃ (its : List Value) (o : Obj) (n : Nat), Vals xs its ∧ h.get? a = some o ∧ o.cls = .type "list" ∧ o.data = .seq its.toArray n := by
  rcases q with q | ⟨o, its, n, e, hc, _, hd, _, hv⟩
  · obtain ⟨_, its, n, hv, e⟩ := (show ObjOk P w H h a (.lst xs) from q.ok hok)
    exact ⟨its, _, n, hv, e, rfl, rfl⟩
  · exact ⟨its.toList, o, n, hv, KX _ _ e, hc, by simp [hd]⟩
theorem sqT_at {a : Addr} {xs : List V} (hok : HOk P w H h) (KX : K.In h) (q : SqT K H a xs) : ∃ (its : List Value) (o : Obj) (n : Nat), Vals xs its ∧ h.get? a = some o ∧ o.cls = .type "tuple" ∧ o.data = .seq its.toArray n := by
  rcases q with q | ⟨o, its, n, e, hc, hd, _, hv⟩
  · obtain ⟨_, its, hv, o, e, hc, n, hd⟩ := (show ObjOk P w H h a (.tup xs) from q.ok hok)
    exact ⟨its, o, n, hv, e, hc, hd⟩
  · exact ⟨its.toList, o, n, hv, KX _ _ e, hc, by simp [hd]⟩
mutual
theorem Dw.reads (hok : HOk P w H h) (KX : K.In h) : ∀ (d : WData) (v : V) (u : Value), Dw K H v d → RelV v u → ∃ as, ReadsW R cl h u d as
  | .none, _, _, x, r => by
    cases x
    cases r
    exact ⟨_, ReadsW.none⟩
  | .bool b, _, _, x, r => by
    cases x
    cases r
    exact ⟨_, ReadsW.bool b⟩
  | .int i, _, _, x, r => by
    cases x
    obtain ⟨t, rfl⟩ := r
    exact ⟨_, ReadsW.int i t⟩
  | .str s, _, _, x, r => by
    cases x
    obtain ⟨t, rfl⟩ := r
    exact ⟨_, ReadsW.str s t⟩
  | .bytes b, _, _, x, r => by
    cases x
    obtain ⟨t, rfl⟩ := r
    exact ⟨_, ReadsW.bytes _ t⟩
  | .list ds, _, _, x, r => by
    cases x with
    | lst hs ha =>
      cases r
      obtain ⟨its, o, n, rv, ho, hc, hd⟩ := sqL_at hok KX hs
      obtain ⟨as, hr⟩ := Dw.readsAll hok KX ds _ its ha rv
      exact ⟨_, ReadsW.list ho hc hd hr⟩
  | .tuple ds, _, _, x, r => by
    cases x with
    | tup hs ha =>
      cases r
      obtain ⟨its, o, n, rv, ho, hc, hd⟩ := sqT_at hok KX hs
      obtain ⟨as, hr⟩ := Dw.readsAll hok KX ds _ its ha rv
      exact ⟨_, ReadsW.tuple ho hc hd hr⟩
  | .float _, _, _, x, _ => by cases x
  | .dict _, _, _, x, _ => by cases x
  | .bytearray _, _, _, x, _ => by cases x
  | .set _, _, _, x, _ => by cases x
  | .frozenset _, _, _, x, _ => by cases x
  | .obj _ _, _, _, x, _ => by cases x
theorem Dw.readsAll (hok : HOk P w H h) (KX : K.In h) : ∀ (ds : List WData) (vs : List V) (us : List Value), DwAll K H vs ds → Vals vs us → ∃ as, ReadsAllW R cl h us ds as
  | [], _, _, x, r => by
    cases x
    cases r
    exact ⟨_, ReadsAllW.nil⟩
  | d :: ds, _, _, x, r => by
    cases x with
    | cons h1 h2 =>
      cases r with
      | cons r1 r2 =>
        obtain ⟨as, q1⟩ := Dw.reads hok KX d _ _ h1 r1
        obtain ⟨bs, q2⟩ := Dw.readsAll hok KX ds _ _ h2 r2
        exact ⟨_, ReadsAllW.cons q1 q2⟩
end
end
mutual
def plW : WData → Bool
  | .none => true
  | .bool _ => true
  | .int _ => true
  | .str _ => true
  | .bytes _ => true
  | .list xs => plWs xs
  | .tuple xs => plWs xs
  | _ => false
def plWs : List WData → Bool
  | [] => true
  | x :: r => plW x && plWs r
end
theorem plWs_map {α : Type} {f : α → WData} (h : ∀ a, plW (f a) = true) : ∀ l : List α, plWs (l.map f) = true
  | [] => rfl
  | x :: r => by
    show (plW (f x) && plWs (r.map f)) = true
    rw [h x, plWs_map h r] <;> rfl
theorem pl_enc : ∀ (c : Codec) (a : c.denote), plW (c.enc a) = true
  | .unit, _ => rfl
  | .bool, _ => rfl
  | .int _ _, _ => rfl
  | .nat _ _, _ => rfl
  | .u8, _ => rfl
  | .bytes _ _, _ => rfl
  | .text _ _ _ _, _ => rfl
  | .list _ _ c, a => plWs_map (fun x => pl_enc c x) a
  | .pair c d, a => by
    show (plW (c.enc a.1) && (plW (d.enc a.2) && true)) = true
    rw [pl_enc c a.1, pl_enc d a.2] <;> rfl
  | .triple c d e, a => by
    show (plW (c.enc a.1) && (plW (d.enc a.2.1) && (plW (e.enc a.2.2) && true))) = true
    rw [pl_enc c a.1, pl_enc d a.2.1, pl_enc e a.2.2] <;> rfl
  | .option c, none => rfl
  | .option c, some x => pl_enc c x
theorem pl_encAll : ∀ (cs : List Codec) (a : Codec.denoteAll cs), plWs (Codec.encAll cs a) = true
  | [], _ => rfl
  | c :: cs, a => by
    show (plW (c.enc a.1) && plWs (Codec.encAll cs a.2)) = true
    rw [pl_enc c a.1, pl_encAll cs a.2] <;> rfl
theorem weight_mem : ∀ {xs : List WData} {d : WData}, d ∈ xs → d.weight ≤ WData.weightAll xs
  | [], d, h => absurd h (by simp)
  | x :: r, d, h => by
    show d.weight ≤ x.weight + 1 + WData.weightAll r
    rcases List.mem_cons.mp h with e | m
    · rw [e]
      omega
    · have z := weight_mem m
      omega
def toV : Value → V
  | .none => .non
  | .bool b => .bl b
  | .int i _ => .int i
  | .str x _ => .str x
  | .bytes b _ => .byt b
  | .ref a => .ref a
  | _ => .non
def OkU (A : List Addr) : Value → Prop
  | .none => True
  | .bool _ => True
  | .int _ _ => True
  | .str _ _ => True
  | .bytes _ _ => True
  | .ref a => a ∈ A
  | _ => False
theorem OkU.mono {A B : List Addr} (h : ∀ a ∈ A, a ∈ B) : ∀ {u : Value}, OkU A u → OkU B u := fun {u} x => by
  cases u with
  | ref a => exact h a x
  | none => trivial
  | bool b => trivial
  | int i t => trivial
  | str s t => trivial
  | bytes b t => trivial
  | _ => exact False.elim x
theorem relV_toV {A : List Addr} {u : Value} (x : OkU A u) : RelV (toV u) u := by
  cases u with
  | ref a => rfl
  | none => rfl
  | bool b => rfl
  | int i t => exact ⟨t, rfl⟩
  | str s t => exact ⟨t, rfl⟩
  | bytes b t => exact ⟨t, rfl⟩
  | _ => exact False.elim x
theorem vals_toV {A : List Addr} : ∀ {vs : List Value}, (∀ u ∈ vs, OkU A u) → Vals (vs.map toV) vs
  | [], _ => .nil
  | u :: r, h => .cons (relV_toV (h u (List.mem_cons_self ..))) (vals_toV fun x hx => h x (List.mem_cons_of_mem _ hx))
def ArgOb (h : Heap) (A : List Addr) (a : Addr) : Prop := ∃ vs : List Value, vs.length ≤ sizeLine ∧ (∀ u ∈ vs, OkU A u) ∧
  (h.get? a = some { cls := .type "list", data := .seq vs.toArray } ∨ h.get? a = some { cls := .type "tuple", data := .seq vs.toArray })
theorem ArgOb.mono {h : Heap} {A B : List Addr} {a : Addr} (k : ∀ a ∈ A, a ∈ B) (x : ArgOb h A a) : ArgOb h B a := by
  obtain ⟨vs, h1, h2, h3⟩ := x
  exact ⟨vs, h1, fun u hu => (h2 u hu).mono k, h3⟩
theorem wellAll_len {P : Params} {h : Heap} : ∀ {vs : List Value} {ds : List WData}, WellAll P h vs ds → vs.length = ds.length
  | _, _, .nil => rfl
  | _, _, .cons _ b => by
    show _ + 1 = _ + 1
    rw [wellAll_len b]
theorem well_list {P : Params} {h : Heap} {v : Value} {ds : List WData} (x : Well P h v (.list ds)) : ∃ (a : Addr) (vs : List Value), v = .ref a ∧ h.get? a = some { cls := .type "list", data := .seq vs.toArray } ∧ WellAll P h vs ds := by
  cases x with
  | list ho hall => exact ⟨_, _, rfl, ho, hall⟩
theorem well_tuple {P : Params} {h : Heap} {v : Value} {ds : List WData} (x : Well P h v (.tuple ds)) : ∃ (a : Addr) (vs : List Value), v = .ref a ∧ h.get? a = some { cls := .type "tuple", data := .seq vs.toArray } ∧ WellAll P h vs ds := by
  cases x with
  | tuple ho hall => exact ⟨_, _, rfl, ho, hall⟩
theorem well_cons {P : Params} {h : Heap} {us : List Value} {d : WData} {ds : List WData} (x : WellAll P h us (d :: ds)) : ∃ (v : Value) (vs : List Value), us = v :: vs ∧ Well P h v d ∧ WellAll P h vs ds := by
  cases x with
  | cons a b => exact ⟨_, _, rfl, a, b⟩
theorem line_of {n : Nat} (h : n ≤ 1048576) : n ≤ sizeLine := Nat.le_trans h (by decide)
section
variable {P : Params} {h : Heap}
mutual
theorem area_one : ∀ (d : WData) (v : Value), Well P h v d → plW d = true → d.weight ≤ 1048576 → ∃ A : List Addr, OkU A v ∧ ∀ a ∈ A, ArgOb h A a
  | .none, _, x, _, _ => by
    cases x
    exact ⟨[], trivial, fun a m => absurd m (by simp)⟩
  | .bool b, _, x, _, _ => by
    cases x
    exact ⟨[], trivial, fun a m => absurd m (by simp)⟩
  | .int i, _, x, _, _ => by
    cases x
    exact ⟨[], trivial, fun a m => absurd m (by simp)⟩
  | .str s, _, x, _, _ => by
    cases x
    exact ⟨[], trivial, fun a m => absurd m (by simp)⟩
  | .bytes b, _, x, _, _ => by
    cases x
    exact ⟨[], trivial, fun a m => absurd m (by simp)⟩
  | .list ds, _, x, p, z => by
    obtain ⟨a, vs, rfl, ho, hall⟩ := well_list x
    have z2 : WData.weightAll ds ≤ 1048576 := z
    obtain ⟨A, h1, h2⟩ := area_all ds _ hall p fun d hd => Nat.le_trans (weight_mem hd) z2
    have k : ∀ b ∈ A, b ∈ a :: A := fun b hb => List.mem_cons_of_mem _ hb
    refine ⟨a :: A, List.mem_cons_self .., fun b hb => ?_⟩
    rcases List.mem_cons.mp hb with e | m
    · rw [e]
      exact ⟨vs, line_of (by rw [wellAll_len hall]; exact Nat.le_trans (PySem.W.length_le_weightAllW ds) z2), fun u hu => (h1 u hu).mono k, .inl ho⟩
    · exact (h2 b m).mono k
  | .tuple ds, _, x, p, z => by
    obtain ⟨a, vs, rfl, ho, hall⟩ := well_tuple x
    have z2 : WData.weightAll ds ≤ 1048576 := z
    obtain ⟨A, h1, h2⟩ := area_all ds _ hall p fun d hd => Nat.le_trans (weight_mem hd) z2
    have k : ∀ b ∈ A, b ∈ a :: A := fun b hb => List.mem_cons_of_mem _ hb
    refine ⟨a :: A, List.mem_cons_self .., fun b hb => ?_⟩
    rcases List.mem_cons.mp hb with e | m
    · rw [e]
      exact ⟨vs, line_of (by rw [wellAll_len hall]; exact Nat.le_trans (PySem.W.length_le_weightAllW ds) z2), fun u hu => (h1 u hu).mono k, .inr ho⟩
    · exact (h2 b m).mono k
  | .float _, _, _, p, _ => Bool.noConfusion (show false = true from p)
  | .dict _, _, _, p, _ => Bool.noConfusion (show false = true from p)
  | .bytearray _, _, _, p, _ => Bool.noConfusion (show false = true from p)
  | .set _, _, _, p, _ => Bool.noConfusion (show false = true from p)
  | .frozenset _, _, _, p, _ => Bool.noConfusion (show false = true from p)
  | .obj _ _, _, _, p, _ => Bool.noConfusion (show false = true from p)
theorem area_all : ∀ (ds : List WData) (vs : List Value), WellAll P h vs ds → plWs ds = true → (∀ d ∈ ds, d.weight ≤ 1048576) → ∃ A : List Addr, (∀ u ∈ vs, OkU A u) ∧ ∀ a ∈ A, ArgOb h A a
  | [], _, x, _, _ => by
    cases x
    exact ⟨[], fun u m => absurd m (by simp), fun a m => absurd m (by simp)⟩
  | d :: ds, _, x, p, z => by
    obtain ⟨v, vs, rfl, x1, x2⟩ := well_cons x
    have q : plW d = true ∧ plWs ds = true := Bool.and_eq_true_iff.mp p
    obtain ⟨A, a1, a2⟩ := area_one d v x1 q.1 (z d (List.mem_cons_self ..))
    obtain ⟨B, b1, b2⟩ := area_all ds vs x2 q.2 fun e he => z e (List.mem_cons_of_mem _ he)
    have kA : ∀ b ∈ A, b ∈ A ++ B := fun b hb => List.mem_append.mpr (.inl hb)
    have kB : ∀ b ∈ B, b ∈ A ++ B := fun b hb => List.mem_append.mpr (.inr hb)
    refine ⟨A ++ B, fun u hu => ?_, fun b hb => ?_⟩
    · rcases List.mem_cons.mp hu with e | m
      · rw [e]
        exact a1.mono kA
      · exact (b1 u m).mono kB
    · rcases List.mem_append.mp hb with m | m
      · exact (a2 b m).mono kA
      · exact (b2 b m).mono kB
end
end
def hoOf (o : Obj) : Option HO := match o.data with
  | .seq vs _ => if (o.cls == Value.type "list") = true then some (.frz o (.lst (vs.toList.map toV))) else some (.frz o (.tup (vs.toList.map toV)))
  | _ => none
def argH (K : PySem.W.Frag) (h : Heap) (A : List Addr) : Hp := fun b => if b ∈ A then (if (K.lookup b).isNone = true then (h.get? b).bind hoOf else none) else none
def OnlyF (H : Hp) : Prop := ∀ b, H b = none ∨ ∃ o u, H b = some (.frz o u)
theorem hoOf_lst (vs : List Value) : hoOf { cls := .type "list", data := .seq vs.toArray } = some (.frz { cls := .type "list", data := .seq vs.toArray } (.lst (vs.map toV))) := by
  show (if (Value.type "list" == Value.type "list") = true then some (HO.frz { cls := .type "list", data := .seq vs.toArray } (.lst (vs.toArray.toList.map toV))) else some (HO.frz { cls := .type "list", data := .seq vs.toArray } (.tup (vs.toArray.toList.map toV)))) = _
  rw [if_pos (beq_self_eq_true _)]
theorem hoOf_tup (vs : List Value) : hoOf { cls := .type "tuple", data := .seq vs.toArray } = some (.frz { cls := .type "tuple", data := .seq vs.toArray } (.tup (vs.map toV))) := by
  show (if (Value.type "tuple" == Value.type "list") = true then some (HO.frz { cls := .type "tuple", data := .seq vs.toArray } (.lst (vs.toArray.toList.map toV))) else some (HO.frz { cls := .type "tuple", data := .seq vs.toArray } (.tup (vs.toArray.toList.map toV)))) = _
  rw [if_neg (by decide)]
section
variable {P : Program} {w : World} {K : PySem.W.Frag} {h : Heap} {A : List Addr}
theorem argH_at {b : Addr} {o : Obj} (hb : b ∈ A) (hk : K.lookup b = none) (e : h.get? b = some o) : argH K h A b = hoOf o := by
  unfold argH
  rw [if_pos hb, hk, if_pos (show (none : Option Obj).isNone = true from rfl), e] <;> rfl
theorem of_argH {b : Addr} {u : HO} (q : argH K h A b = some u) : b ∈ A ∧ K.lookup b = none := by
  unfold argH at q
  by_cases hb : b ∈ A
  · rw [if_pos hb] at q
    cases hk : K.lookup b with
    | none => exact ⟨hb, rfl⟩
    | some o =>
      rw [hk, if_neg (by simp)] at q
      cases q
  · rw [if_neg hb] at q
    cases q
theorem argH_is (ar : ∀ a ∈ A, ArgOb h A a) {b : Addr} {u : HO} (q : argH K h A b = some u) : K.lookup b = none ∧ ∃ vs : List Value, vs.length ≤ sizeLine ∧ (∀ u ∈ vs, OkU A u) ∧
    ((h.get? b = some { cls := .type "list", data := .seq vs.toArray } ∧ u = .frz { cls := .type "list", data := .seq vs.toArray } (.lst (vs.map toV))) ∨
     (h.get? b = some { cls := .type "tuple", data := .seq vs.toArray } ∧ u = .frz { cls := .type "tuple", data := .seq vs.toArray } (.tup (vs.map toV)))) := by
  obtain ⟨hb, hk⟩ := of_argH q
  obtain ⟨vs, h1, h2, h3⟩ := ar b hb
  refine ⟨hk, vs, h1, h2, ?_⟩
  rcases h3 with e | e
  · rw [argH_at hb hk e, hoOf_lst] at q
    exact .inl ⟨e, (Option.some.inj q).symm⟩
  · rw [argH_at hb hk e, hoOf_tup] at q
    exact .inr ⟨e, (Option.some.inj q).symm⟩
theorem argH_only (ar : ∀ a ∈ A, ArgOb h A a) : OnlyF (argH K h A) := fun b => by
  cases q : argH K h A b with
  | none => exact .inl rfl
  | some u =>
    obtain ⟨_, vs, _, _, ⟨_, e⟩ | ⟨_, e⟩⟩ := argH_is ar q
    · exact .inr ⟨_, _, by rw [e]⟩
    · exact .inr ⟨_, _, by rw [e]⟩
theorem argH_ok (ar : ∀ a ∈ A, ArgOb h A a) : HOk P w (argH K h A) h := fun b u q => by
  obtain ⟨_, vs, h1, h2, ⟨e, rfl⟩ | ⟨e, rfl⟩⟩ := argH_is ar q
  · exact ⟨e, by rw [List.length_map]; exact h1, vs, _, vals_toV h2, e⟩
  · exact ⟨e, by rw [List.length_map]; exact h1, vs, vals_toV h2, _, e, rfl, _, rfl⟩
theorem seq_inj {c c' : Value} {vs us : List Value} (e : (some { cls := c, data := .seq vs.toArray } : Option Obj) = some { cls := c', data := .seq us.toArray }) : c = c' ∧ vs = us := by
  have e1 := Option.some.inj e
  have e2 : c = c' := congrArg Obj.cls e1
  have e3 : Data.seq vs.toArray = Data.seq us.toArray := congrArg Obj.data e1
  injection e3 with e4
  refine ⟨e2, ?_⟩
  have e5 := congrArg Array.toList e4
  simpa using e5
theorem argL (KX : K.In h) (ar : ∀ a ∈ A, ArgOb h A a) {a : Addr} {vs : List Value} (ha : a ∈ A) (e : h.get? a = some { cls := .type "list", data := .seq vs.toArray }) : (∀ u ∈ vs, OkU A u) ∧ SqL K (argH K h A) a (vs.map toV) := by
  obtain ⟨us, h1, h2, h3⟩ := ar a ha
  have hu : us = vs := by
    rcases h3 with q | q
    · rw [e] at q
      exact (seq_inj q).2.symm
    · rw [e] at q
      exact absurd (Value.type.inj (seq_inj q).1) (by decide)
  subst hu
  refine ⟨h2, ?_⟩
  cases hk : K.lookup a with
  | none => exact .inl (.inr ⟨_, by rw [argH_at ha hk e, hoOf_lst]⟩)
  | some o =>
    have e2 := KX a o hk
    rw [e] at e2
    obtain rfl := Option.some.inj e2
    exact .inr ⟨_, us.toArray, _, hk, rfl, rfl, rfl, by rw [List.size_toArray]; exact h1, by simpa using vals_toV h2⟩
theorem argT (KX : K.In h) (ar : ∀ a ∈ A, ArgOb h A a) {a : Addr} {vs : List Value} (ha : a ∈ A) (e : h.get? a = some { cls := .type "tuple", data := .seq vs.toArray }) : (∀ u ∈ vs, OkU A u) ∧ SqT K (argH K h A) a (vs.map toV) := by
  obtain ⟨us, h1, h2, h3⟩ := ar a ha
  have hu : us = vs := by
    rcases h3 with q | q
    · rw [e] at q
      exact absurd (Value.type.inj (seq_inj q).1) (by decide)
    · rw [e] at q
      exact (seq_inj q).2.symm
  subst hu
  refine ⟨h2, ?_⟩
  cases hk : K.lookup a with
  | none => exact .inl (.inr ⟨_, by rw [argH_at ha hk e, hoOf_tup]⟩)
  | some o =>
    have e2 := KX a o hk
    rw [e] at e2
    obtain rfl := Option.some.inj e2
    exact .inr ⟨_, us.toArray, _, hk, rfl, rfl, by rw [List.size_toArray]; exact h1, by simpa using vals_toV h2⟩
mutual
theorem dw_one {Pm : Params} (KX : K.In h) (ar : ∀ a ∈ A, ArgOb h A a) : ∀ (d : WData) (v : Value), Well Pm h v d → plW d = true → OkU A v → Dw K (argH K h A) (toV v) d
  | .none, _, x, _, _ => by
    cases x
    exact .non
  | .bool b, _, x, _, _ => by
    cases x
    exact .bl b
  | .int i, _, x, _, _ => by
    cases x
    exact .int i
  | .str s, _, x, _, _ => by
    cases x
    exact .str s
  | .bytes b, _, x, _, _ => by
    cases x
    have z := Dw.byt (K := K) (H := argH K h A) b.toArray
    exact z
  | .list ds, _, x, p, hu => by
    obtain ⟨a, vs, rfl, ho, hall⟩ := well_list x
    obtain ⟨h2, hs⟩ := argL KX ar hu ho
    exact .lst hs (dw_all KX ar ds _ hall p h2)
  | .tuple ds, _, x, p, hu => by
    obtain ⟨a, vs, rfl, ho, hall⟩ := well_tuple x
    obtain ⟨h2, hs⟩ := argT KX ar hu ho
    exact .tup hs (dw_all KX ar ds _ hall p h2)
  | .float _, _, _, p, _ => Bool.noConfusion (show false = true from p)
  | .dict _, _, _, p, _ => Bool.noConfusion (show false = true from p)
  | .bytearray _, _, _, p, _ => Bool.noConfusion (show false = true from p)
  | .set _, _, _, p, _ => Bool.noConfusion (show false = true from p)
  | .frozenset _, _, _, p, _ => Bool.noConfusion (show false = true from p)
  | .obj _ _, _, _, p, _ => Bool.noConfusion (show false = true from p)
theorem dw_all {Pm : Params} (KX : K.In h) (ar : ∀ a ∈ A, ArgOb h A a) : ∀ (ds : List WData) (vs : List Value), WellAll Pm h vs ds → plWs ds = true → (∀ u ∈ vs, OkU A u) → DwAll K (argH K h A) (vs.map toV) ds
  | [], _, x, _, _ => by
    cases x
    exact .nil
  | d :: ds, _, x, p, hu => by
    obtain ⟨v, vs, rfl, x1, x2⟩ := well_cons x
    have q : plW d = true ∧ plWs ds = true := Bool.and_eq_true_iff.mp p
    exact .cons (dw_one KX ar d v x1 q.1 (hu _ (List.mem_cons_self ..))) (dw_all KX ar ds vs x2 q.2 fun u m => hu u (List.mem_cons_of_mem _ m))
end
end
theorem spec_call {P : Program} {w : World} {K : PySem.W.Frag} {mg mb : Str → Option Value} {CX : CXT} {k : Nat} {fa : Addr} {fd : FuncData} {ps : List Str} {sp : Sp} {s₁ : Shared} {vals : List Value} {ds : List WData} {R : PySem.W.WRecords} {cl : Str → Option Addr} {d0 : WData}
    (KX : K.In s₁.heap) (hns : s₁.heap.Ns mainGlobals mg) (hb : s₁.heap.Ns builtinsNs mb) (hbb : ∀ x : Str, x ≠ "__name__" → mb x = bootBuiltins x) (hlim : s₁.heap.NoLimit) (hg : s₁.gens = #[])
    (hwl : WellAll w.params s₁.heap vals ds) (hpl : plWs ds = true) (hwt : ∀ d ∈ ds, d.weight ≤ 1048576) (hr : Room k callerA)
    (F : ∀ base : Heap, K.In base → base.Ns mainGlobals mg → FnOk P w K mg base CX k fa fd ps sp) (hbind : ∀ (s : Shared) (us : List Value), us.length = ps.length → BindsTo s fd ⟨us, []⟩ (ps.zip us)) (hlen : ds.length = ps.length)
    (hsp : ∀ (H : Hp) (xs : List V), OnlyF H → DwAll K H xs ds → sp xs H (fun v H' => Dw K H' v d0) fun _ _ _ => False)
    (hCX : ∀ H e s', CX [] H s₁ (fun _ _ _ => False) e s' → False) :
    codeAny (model P w) callerA (.call (.ref fa) ⟨vals, []⟩) (fun r s' => ∃ u as, r = .ok (.ret u) ∧ ReadsW R cl s'.heap u d0 as ∧ OldK s₁.heap s'.heap ∧ s'.os = s₁.os ∧ AllBare s'.gens) s₁ := by
  obtain ⟨A, ho, ar⟩ := area_all ds vals hwl hpl hwt
  have hO : OnlyF (argH K s₁.heap A) := argH_only ar
  have hok : HOk P w (argH K s₁.heap A) s₁.heap := argH_ok ar
  have hS := dw_all KX ar ds vals hwl hpl ho
  have hV := vals_toV ho
  have hK : ∀ b u, argH K s₁.heap A b = some u → K.lookup b = none := fun b u q => (argH_is ar q).1
  have noA : ∀ {b : Addr} {o : Obj} {es : Array DictEntry} {ep : Nat}, s₁.heap.get? b = some o → o.data = .dict es ep → argH K s₁.heap A b = none := fun {b o es ep} e d => by
    cases q : argH K s₁.heap A b with
    | none => rfl
    | some u =>
      obtain ⟨_, vs, _, _, ⟨e2, _⟩ | ⟨e2, _⟩⟩ := argH_is ar q
      · rw [e2] at e
        cases e
        have d' : Data.seq vs.toArray _ = Data.dict es ep := d
        cases d'
      · rw [e2] at e
        cases e
        have d' : Data.seq vs.toArray _ = Data.dict es ep := d
        cases d'
  generalize argH K s₁.heap A = H at hO hok hS hK noA
  have base_of : ∀ {b : Addr} {o : Obj}, s₁.heap.get? b = some o → H b = none → (hidT s₁.heap H).get? b = some o := fun e n => hidT_get e n
  have nsK : ∀ {b : Addr} {m : Str → Option Value}, s₁.heap.Ns b m → (hidT s₁.heap H).Ns b m := fun {b m} ⟨o, es, ep, e, d, r⟩ => ⟨o, es, ep, base_of e (noA e d), d, r⟩
  have nK : ∀ b o, K.lookup b = some o → H b = none := fun b o e => by
    cases q : H b with
    | none => rfl
    | some u =>
      rw [hK b u q] at e
      cases e
  have hKb : K.In (hidT s₁.heap H) := fun b o e => base_of (KX b o e) (nK b o e)
  have hM : Mod K mg (hidT s₁.heap H) := ⟨hKb, nsK hns, ⟨mb, nsK hb, hbb⟩, let ⟨mc, h1, h2⟩ := hlim; ⟨mc, nsK h1, h2⟩⟩
  have e0 : Env0 P w K mg (hidT s₁.heap H) callerA [] s₁ H := ⟨rfl, hM, fun b o e => of_hidT e, Nat.le_of_eq (hidT_size _ _), trivial, fun b hb => absurd (show b ∈ ([] : List Addr) from hb) (by simp), hok, .of_eq hg⟩
  have hl : vals.length = ps.length := by rw [wellAll_len hwl]; exact hlen
  refine codeAny_mono ((F _ hKb (nsK hns)).run callerA [] s₁ H ⟨vals, []⟩ vals (vals.map toV) _ _ hr e0 (hbind s₁ vals hl) hV (hsp H _ hO hS)) fun r s' x => ?_
  cases r with
  | error e => exact (hCX H e s' x).elim
  | ok fl =>
    cases fl with
    | next => exact False.elim x
    | brk => exact False.elim x
    | cont => exact False.elim x
    | ret u =>
      obtain ⟨v, H', os, bare, un, hok', r', q⟩ := x
      have kept : ∀ b o, s₁.heap.get? b = some o → s'.heap.get? b = some o := fun b o e => by
        cases q2 : H b with
        | none => exact un.keep b o e q2 (by intro z; exact absurd (show b ∈ ([] : List Addr) from z) (by simp)) (by simp)
        | some u2 =>
          rcases hO b with z | ⟨ob, u3, z⟩
          · rw [q2] at z
            cases z
          · have z2 := un.frzs b ob _ z
            obtain ⟨e1, _⟩ := hok b _ z
            obtain ⟨e2, _⟩ := hok' b _ z2
            rw [e] at e1
            cases e1
            exact e2
      have KX' : K.In s'.heap := fun b o e => kept b o (KX b o e)
      obtain ⟨as, hrd⟩ := Dw.reads (R := R) (cl := cl) hok' KX' d0 v u q r'
      exact ⟨u, as, rfl, hrd, OldK.of_keep kept, os, bare⟩
theorem layable_weight {ds : List WData} (h : WData.layableAll ds = true) : ∀ d ∈ ds, d.weight ≤ 1048576 := fun d hd =>
  (PySem.W.layableW_iff.mp (List.all_eq_true.mp h d hd)).2.2
theorem encAll_len : ∀ (cs : List Codec) (a : Codec.denoteAll cs), (Codec.encAll cs a).length = cs.length
  | [], _ => rfl
  | c :: cs, a => by
    show (Codec.encAll cs a.2).length + 1 = cs.length + 1
    rw [encAll_len cs a.2]
theorem walk_spec {r : OpenSpec} {k : Nat} {q : Program} {loose : List Str} {XP : (Str → Option Value) → Heap → Prop} {YP : World → Heap → Prop} {d : DefRec} {K : Params → PySem.W.Frag} {CX : World → CXT} {ps : List Str} {sp : World → Sp}
    (hwell : r.wellSaid = true) (hdf : d.params.defaults = []) (hlen : r.args.length = ps.length) (hr : Room k callerA)
    (hY : ∀ (w : World) (h : Heap), YP w h → (K w.params).In h)
    (F : ∀ (w : World) (mg : Str → Option Value) (fa : Addr) (h : Heap), YP w h → (K w.params).In h → h.Ns mainGlobals mg → mg d.name = some (.ref fa) →
      ∃ fd : FuncData, (∀ (s : Shared) (us : List Value), us.length = ps.length → BindsTo s fd ⟨us, []⟩ (ps.zip us)) ∧
        ∀ base : Heap, (K w.params).In base → base.Ns mainGlobals mg → FnOk r.prog w (K w.params) mg base (CX w) k fa fd ps (sp w))
    (hsp : ∀ (w : World) (H : Hp) (xs : List V) (a : Codec.denoteAll r.args), OnlyF H → Codec.withinAll r.args a = true → Codec.app r.args r.asked a = true → DwAll (K w.params) H xs (Codec.encAll r.args a) →
      sp w xs H (fun v H' => Dw (K w.params) H' v (r.ret.enc (Codec.app r.args r.f a))) fun _ _ _ => False)
    (hCX : ∀ (w : World) (H : Hp) (s : Shared) (e : Value) (s' : Shared), CX w [] H s (fun _ _ _ => False) e s' → False) :
    PySem.W.WalkOS q loose XP YP r d [] (fun f vs => PySem.call f vs) := by
  intro w s_0 s₁ mg mb G Y fa o pm cd doc dV kV ho hd hcd hD hmg hg args vals as hpre hlay hrd hwl hlo
  obtain ⟨a, e1, e2⟩ := PySem.W.os_pre_some hpre
  obtain ⟨e3, hwi⟩ := Codec.encAll_of_decAll r.args args a e1
  subst e3
  have KX := hY w _ Y
  obtain ⟨fd, hb, hF⟩ := F w mg fa _ Y KX G.T.g hmg
  refine PySem.W.enter_call (codeAny_mono (spec_call (R := []) (cl := classAt s_0.heap) (d0 := r.ret.enc (Codec.app r.args r.f a)) KX G.T.g G.T.b G.T.builtins G.T.nolimit hg hwl (pl_encAll _ _) (layable_weight hlay) hr hF hb (by rw [encAll_len]; exact hlen)
    (fun H xs hO hS => hsp w H xs a hO hwi e2 hS) fun H e s' => hCX w H s₁ e s') fun r' s' hq => ?_)
  obtain ⟨u, as', rfl, h1, h2, h3, h4⟩ := hq
  exact ⟨.inl ⟨u, _, as', rfl, fun _ => rfl, h1, (OpenSpec.post_iff hwell hwi _ _).mpr rfl, fun z => Bool.noConfusion (show false = true from z)⟩, h2, h3, h4⟩
theorem walk_specK {r : OpenSpec} {k : Nat} {q : Program} {loose : List Str} {XP : (Str → Option Value) → Heap → Prop} {YP : World → Heap → Prop} {d : DefRec} {K : Params → PySem.W.Frag} {CX : CXT} {ps : List Str} {sp : PySem.W.Frag → Sp}
    (hwell : r.wellSaid = true) (hdf : d.params.defaults = []) (hlen : r.args.length = ps.length) (hr : Room k callerA)
    (hY : ∀ (w : World) (h : Heap), YP w h → (K w.params).In h)
    (F : ∀ (w : World) (mg : Str → Option Value) (fa : Addr) (h : Heap), YP w h → (K w.params).In h → h.Ns mainGlobals mg → mg d.name = some (.ref fa) →
      ∃ fd : FuncData, (∀ (s : Shared) (us : List Value), us.length = ps.length → BindsTo s fd ⟨us, []⟩ (ps.zip us)) ∧
        ∀ base : Heap, (K w.params).In base → base.Ns mainGlobals mg → FnOk r.prog w (K w.params) mg base CX k fa fd ps (sp (K w.params)))
    (hsp : ∀ (K : PySem.W.Frag) (H : Hp) (xs : List V) (a : Codec.denoteAll r.args), OnlyF H → Codec.withinAll r.args a = true → Codec.app r.args r.asked a = true → DwAll K H xs (Codec.encAll r.args a) →
      sp K xs H (fun v H' => Dw K H' v (r.ret.enc (Codec.app r.args r.f a))) fun _ _ _ => False)
    (hCX : ∀ (H : Hp) (s : Shared) (e : Value) (s' : Shared), CX [] H s (fun _ _ _ => False) e s' → False) :
    PySem.W.WalkOS q loose XP YP r d [] (fun f vs => PySem.call f vs) :=
  walk_spec (K := K) (CX := fun _ => CX) (sp := fun w => sp (K w.params)) hwell hdf hlen hr hY F (fun w H xs a h1 h2 h3 h4 => hsp (K w.params) H xs a h1 h2 h3 h4) fun _ H s e s' => hCX H s e s'
end L2
end
end

section
set_option linter.all false
namespace CP
theorem fm_congr {α β : Type} {l : List α} {f g : α → List β} (h : ∀ x ∈ l, f x = g x) : l.flatMap f = l.flatMap g := by
  induction l with
  | nil => rfl
  | cons a l ih => rw [List.flatMap_cons, List.flatMap_cons, h a (by simp), ih fun x hx => h x (by simp [hx])]
theorem nodup_le : ∀ {a b : List Nat}, a.Nodup → (∀ x ∈ a, x ∈ b) → a.length ≤ b.length
  | [], _, _, _ => by simp
  | x :: a, b, hn, hs => by
    obtain ⟨h1, h2⟩ := List.nodup_cons.mp hn
    have hx : x ∈ b := hs x (by simp)
    have ih := nodup_le (b := b.erase x) h2 fun y hy => (List.mem_erase_of_ne (fun (e : y = x) => h1 (e ▸ hy))).mpr (hs y (by simp [hy]))
    have hl := List.length_erase_of_mem hx
    have : 0 < b.length := List.length_pos_of_mem hx
    rw [List.length_cons]
    omega
/-! Dealings: the program's way of growing them, one cell at a time, and the specification's, group by group, tell the same list. -/
def mayF (g : Nat) (d : List Nat) (c : Nat) : Bool :=
  if d.contains c then false else if d.length = 0 then true
  else if d.length % g = 0 then decide (d.getD (d.length - g) 0 < c) else decide (d.getD (d.length - 1) 0 < c)
def grow (L : List Nat) (g : Nat) (ds : List (List Nat)) : List (List Nat) := ds.flatMap fun d => (L.filter (mayF g d)).map fun c => d ++ [c]
def grown (L : List Nat) (g : Nat) : Nat → List (List Nat)
  | 0 => [[]]
  | n + 1 => grow L g (grown L g n)
def ext (L : List Nat) (g : Nat) : Nat → List Nat → List (List Nat)
  | 0, d => [d]
  | n + 1, d => (L.filter (mayF g d)).flatMap fun c => ext L g n (d ++ [c])
theorem grown_ext (L : List Nat) (g : Nat) : ∀ n m, (grown L g m).flatMap (ext L g n) = grown L g (m + n)
  | 0, m => by
    show (grown L g m).flatMap (fun d => [d]) = _
    simp
  | n + 1, m => by
    have ih := grown_ext L g n (m + 1)
    rw [show m + (n + 1) = m + 1 + n by omega, ← ih]
    show _ = (grow L g (grown L g m)).flatMap _
    unfold grow
    rw [List.flatMap_assoc]
    congr 1
    funext d
    rw [List.flatMap_map]
    rfl
theorem choose_sorted : ∀ (k : Nat) (l : List Nat), l.Pairwise (· < ·) → Kqb4.choose (k + 1) l = l.flatMap fun x => (Kqb4.choose k (l.filter (fun y => decide (x < y)))).map (x :: ·)
  | k, [], _ => by simp [Kqb4.choose]
  | k, x :: l, h => by
    obtain ⟨h1, h2⟩ := List.pairwise_cons.mp h
    have ih := choose_sorted k l h2
    rw [Kqb4.choose, ih, List.flatMap_cons]
    have e1 : (x :: l).filter (fun y => decide (x < y)) = l := by
      rw [List.filter_cons_of_neg (by simp)]
      exact List.filter_eq_self.mpr fun y hy => by simpa using h1 y hy
    rw [e1]
    congr 1
    have : ∀ y ∈ l, (Kqb4.choose k (l.filter (fun z => decide (y < z)))).map (y :: ·) = (Kqb4.choose k ((x :: l).filter (fun z => decide (y < z)))).map (y :: ·) := fun y hy => by
      rw [List.filter_cons_of_neg (by have := h1 y hy; simp; omega)]
    exact fm_congr this
theorem choose_len : ∀ {k : Nat} {l x : List Nat}, x ∈ Kqb4.choose k l → x.length = k
  | 0, l, x, h => by
    have : x = [] := by simpa [Kqb4.choose] using h
    rw [this]; rfl
  | k + 1, [], x, h => by simp [Kqb4.choose] at h
  | k + 1, a :: l, x, h => by
    rw [Kqb4.choose, List.mem_append, List.mem_map] at h
    rcases h with ⟨y, hy, rfl⟩ | h
    · rw [List.length_cons, choose_len hy]
    · exact choose_len h
theorem choose_sub : ∀ {k : Nat} {l x : List Nat}, x ∈ Kqb4.choose k l → x.Sublist l
  | 0, l, x, h => by
    have : x = [] := by simpa [Kqb4.choose] using h
    rw [this]; exact List.nil_sublist _
  | k + 1, [], x, h => by simp [Kqb4.choose] at h
  | k + 1, a :: l, x, h => by
    rw [Kqb4.choose, List.mem_append, List.mem_map] at h
    rcases h with ⟨y, hy, rfl⟩ | h
    · exact (choose_sub hy).cons₂ a
    · exact (choose_sub h).cons a
theorem filter_sorted {l : List Nat} (p : Nat → Bool) (h : l.Pairwise (· < ·)) : (l.filter p).Pairwise (· < ·) := h.sublist List.filter_sublist

theorem ext_in {L : List Nat} (hL : L.Pairwise (· < ·)) {g : Nat} {d : List Nat} (hd : d.length % g = 0) (m : Nat) : ∀ (k : Nat) (p : List Nat) (q : Nat), p.length + k = g → (∀ x ∈ p, x ≤ q) → p ≠ [] → (d ++ p).getD ((d ++ p).length - 1) 0 = q →
    ext L g (k + m) (d ++ p) = (Kqb4.choose k ((L.filter fun c => !d.contains c).filter fun c => decide (q < c))).flatMap fun x => ext L g m (d ++ p ++ x)
  | 0, p, q, _, _, _, _ => by simp [Kqb4.choose]
  | k + 1, p, q, hp, hq, hn, hl => by
    have hpl : 0 < p.length := List.length_pos_iff.mpr hn
    have hmod : ¬ (d ++ p).length % g = 0 := by
      rw [List.length_append, Nat.add_mod, hd, Nat.zero_add, Nat.mod_mod, Nat.mod_eq_of_lt (by omega)]
      omega
    have hne : ¬ (d ++ p).length = 0 := by rw [List.length_append]; omega
    have ef : L.filter (mayF g (d ++ p)) = (L.filter fun c => !d.contains c).filter fun c => decide (q < c) := by
      rw [List.filter_filter]
      refine List.filter_congr fun c _ => ?_
      unfold mayF
      rw [if_neg hne, if_neg hmod, hl]
      by_cases h1 : c ∈ d
      · have e1 : (d ++ p).contains c = true := by simp [h1]
        have e2 : d.contains c = true := by simp [h1]
        rw [if_pos e1, e2]; simp
      · have e2 : d.contains c = false := by simp [h1]
        by_cases h2 : c ∈ p
        · have e1 : (d ++ p).contains c = true := by simp [h2]
          have := hq c h2
          rw [if_pos e1, decide_eq_false (by omega)]; rfl
        · have e1 : ¬ (d ++ p).contains c = true := by simp [h1, h2]
          rw [if_neg e1, e2]; simp
    have hs := filter_sorted (fun c => decide (q < c)) (filter_sorted (fun c => !d.contains c) hL)
    rw [show k + 1 + m = (k + m) + 1 by omega, ext, ef, choose_sorted k _ hs, List.flatMap_assoc]
    refine fm_congr fun x hx => ?_
    have hqx : q < x := by
      have := (List.mem_filter.mp hx).2
      simpa using this
    have ih := ext_in hL hd m k (p ++ [x]) x (by simp; omega) (fun y hy => by
      rcases List.mem_append.mp hy with h | h
      · have := hq y h; omega
      · simp at h; omega) (by simp) (by simp [List.getD])
    rw [← List.append_assoc] at ih
    rw [ih, List.flatMap_map]
    have e3 : ((L.filter fun c => !d.contains c).filter fun c => decide (q < c)).filter (fun y => decide (x < y)) = (L.filter fun c => !d.contains c).filter fun c => decide (x < c) := by
      rw [List.filter_filter]
      refine List.filter_congr fun c _ => ?_
      by_cases h : x < c
      · simp [h]; omega
      · simp [h]
    rw [e3]
    refine fm_congr fun y _ => ?_
    simp [List.append_assoc]

theorem ext_group {L : List Nat} (hL : L.Pairwise (· < ·)) {g : Nat} (hg : 0 < g) {d : List Nat} (hd : d.length % g = 0) {f : Nat} (hf : (d = [] ∧ f = 0) ∨ (d ≠ [] ∧ d.getD (d.length - g) 0 = f ∧ f ∈ d)) (m : Nat) :
    ext L g (g + m) d = ((Kqb4.choose g (L.filter fun c => !d.contains c)).filter fun x => decide (f ≤ x.headD 0)).flatMap fun x => ext L g m (d ++ x) := by
  obtain ⟨k, rfl⟩ : ∃ k, g = k + 1 := ⟨g - 1, by omega⟩
  have hs := filter_sorted (fun c => !d.contains c) hL
  rw [show k + 1 + m = (k + m) + 1 by omega, ext, choose_sorted k _ hs, List.filter_flatMap]
  have e0 : (fun x => List.filter (fun x => decide (f ≤ x.headD 0)) (List.map (fun y => x :: y) (Kqb4.choose k (List.filter (fun y => decide (x < y)) (L.filter fun c => !d.contains c))))) = fun x => if f ≤ x then (Kqb4.choose k (List.filter (fun y => decide (x < y)) (L.filter fun c => !d.contains c))).map (fun y => x :: y) else [] := by
    funext x
    rw [List.filter_map]
    by_cases h : f ≤ x
    · rw [if_pos h]
      congr 1
      exact List.filter_eq_self.mpr fun y _ => decide_eq_true h
    · rw [if_neg h]
      have : List.filter ((fun x => decide (f ≤ x.headD 0)) ∘ fun y => x :: y) (Kqb4.choose k (List.filter (fun y => decide (x < y)) (L.filter fun c => !d.contains c))) = [] := List.filter_eq_nil_iff.mpr fun y _ z => h (of_decide_eq_true z)
      rw [this]; rfl
  rw [e0]
  have ef : L.filter (mayF (k + 1) d) = (L.filter fun c => !d.contains c).filter fun c => decide (f ≤ c) := by
    rw [List.filter_filter]
    refine List.filter_congr fun c _ => ?_
    unfold mayF
    by_cases h1 : c ∈ d
    · have e2 : d.contains c = true := by simp [h1]
      rw [if_pos e2, e2]; simp
    · have e2 : d.contains c = false := by simp [h1]
      rw [if_neg (by rw [e2]; decide), e2]
      rcases hf with ⟨rfl, rfl⟩ | ⟨hn, hf, hm⟩
      · simp
      · have : ¬ d.length = 0 := by simpa using hn
        rw [if_neg this, if_pos hd, hf]
        have : f ≠ c := fun e => h1 (e ▸ hm)
        by_cases h : f < c
        · simp [h]; omega
        · simp [h]; omega
  rw [ef]
  have split : ∀ (l : List Nat) (F : Nat → List (List Nat)), (l.filter fun c => decide (f ≤ c)).flatMap F = l.flatMap fun x => if f ≤ x then F x else [] := by
    intro l F
    induction l with
    | nil => rfl
    | cons a l ih =>
      by_cases h : f ≤ a
      · rw [List.filter_cons_of_pos (by simpa using h), List.flatMap_cons, List.flatMap_cons, ih, if_pos h]
      · rw [List.filter_cons_of_neg (by simpa using h), List.flatMap_cons, ih, if_neg h]; rfl
  rw [split, List.flatMap_assoc]
  refine fm_congr fun x hx => ?_
  by_cases h : f ≤ x
  · rw [if_pos h, if_pos h]
    have := ext_in hL (g := k + 1) hd m k [x] x (by simp; omega) (by simp) (by simp) (by simp [List.getD])
    rw [this, List.flatMap_map]
    refine fm_congr fun y _ => ?_
    simp [List.append_assoc]
  · rw [if_neg h, if_neg h]; rfl

theorem ways_ext {L : List Nat} (hL : L.Pairwise (· < ·)) {g : Nat} (hg : 0 < g) : ∀ (r : Nat) (d : List Nat) (f : Nat), d.length % g = 0 → ((d = [] ∧ f = 0) ∨ (d ≠ [] ∧ d.getD (d.length - g) 0 = f ∧ f ∈ d)) →
    ext L g (r * g) d = (Kqb4.ways g r f (L.filter fun c => !d.contains c)).map fun w => d ++ w.flatten
  | 0, d, f, _, _ => by simp [ext, Kqb4.ways]
  | r + 1, d, f, hd, hf => by
    rw [show (r + 1) * g = g + r * g by rw [Nat.add_mul, Nat.one_mul]; omega, ext_group hL hg hd hf, Kqb4.ways, List.map_flatMap]
    refine fm_congr fun x hx => ?_
    have hx' := (List.mem_filter.mp hx).1
    have hlen := choose_len hx'
    have hxn : x ≠ [] := by
      intro e
      rw [e] at hlen
      simp at hlen
      omega
    have ih := ways_ext hL hg r (d ++ x) (x.headD 0) (by rw [List.length_append, hlen, Nat.add_mod, hd]; simp) (.inr ⟨by simp [hxn], by
      have : (d ++ x).length - g = d.length := by rw [List.length_append, hlen]; omega
      rw [this]
      cases x with
      | nil => exact absurd rfl hxn
      | cons a x => simp [List.getD], by
      cases x with
      | nil => exact absurd rfl hxn
      | cons a x => simp⟩)
    rw [ih]
    have el : (L.filter fun c => !(d ++ x).contains c) = (L.filter fun c => !d.contains c).filter fun i => !x.contains i := by
      rw [List.filter_filter]
      refine List.filter_congr fun c _ => ?_
      simp [Bool.and_comm]
    rw [el, List.map_map]
    refine List.map_congr_left fun w _ => ?_
    simp [List.append_assoc]
/-- the program's dealings are the specification's, flat -/
theorem grown_ways {L : List Nat} (hL : L.Pairwise (· < ·)) {g : Nat} (hg : 0 < g) (r : Nat) : grown L g (r * g) = (Kqb4.ways g r 0 L).map List.flatten := by
  have h1 := grown_ext L g (r * g) 0
  have h2 := ways_ext hL hg r [] 0 (by simp) (.inl ⟨rfl, rfl⟩)
  have e : (L.filter fun c => !([] : List Nat).contains c) = L := List.filter_eq_self.mpr fun _ _ => rfl
  rw [e] at h2
  rw [Nat.zero_add] at h1
  rw [← h1]
  show ([[]] : List (List Nat)).flatMap _ = _
  rw [List.flatMap_cons, List.flatMap_nil, List.append_nil, h2]
  refine List.map_congr_left fun w _ => ?_
  simp

/-! how many there are -/
theorem ways_len : ∀ {g r f : Nat} {l : List Nat} {w : List (List Nat)}, w ∈ Kqb4.ways g r f l → w.length = r ∧ ∀ x ∈ w, x.length = g
  | g, 0, f, l, w, h => by
    have : w = [] := by simpa [Kqb4.ways] using h
    subst this; simp
  | g, r + 1, f, l, w, h => by
    rw [Kqb4.ways, List.mem_flatMap] at h
    obtain ⟨x, hx, h⟩ := h
    obtain ⟨v, hv, rfl⟩ := List.mem_map.mp h
    obtain ⟨h1, h2⟩ := ways_len hv
    refine ⟨by rw [List.length_cons, h1], fun y hy => ?_⟩
    rcases List.mem_cons.mp hy with rfl | hy
    · exact choose_len (List.mem_filter.mp hx).1
    · exact h2 y hy
/-- a way's cells: each of l, none twice -/
theorem ways_mem : ∀ {g r f : Nat} {l : List Nat} {w : List (List Nat)}, l.Nodup → w ∈ Kqb4.ways g r f l → (∀ i ∈ w.flatten, i ∈ l) ∧ w.flatten.Nodup
  | g, 0, f, l, w, hn, h => by
    have : w = [] := by simpa [Kqb4.ways] using h
    subst this; simp
  | g, r + 1, f, l, w, hn, h => by
    rw [Kqb4.ways, List.mem_flatMap] at h
    obtain ⟨x, hx, h⟩ := h
    obtain ⟨v, hv, rfl⟩ := List.mem_map.mp h
    obtain ⟨h1, h2⟩ := ways_mem (hn.sublist List.filter_sublist) hv
    have hs := choose_sub (List.mem_filter.mp hx).1
    refine ⟨fun i hi => ?_, ?_⟩
    · rw [List.flatten_cons, List.mem_append] at hi
      rcases hi with hi | hi
      · exact hs.subset hi
      · exact (List.mem_filter.mp (h1 i hi)).1
    · rw [List.flatten_cons, List.nodup_append]
      refine ⟨hn.sublist hs, h2, fun a ha b hb e => ?_⟩
      subst e
      have := (List.mem_filter.mp (h1 a hb)).2
      simp [ha] at this
theorem choose_take : ∀ (k : Nat) (l : List Nat), k ≤ l.length → ∃ t, Kqb4.choose k l = l.take k :: t
  | 0, l, _ => ⟨[], by simp [Kqb4.choose]⟩
  | k + 1, [], h => by simp at h
  | k + 1, a :: l, h => by
    obtain ⟨t, e⟩ := choose_take k l (by simpa using h)
    exact ⟨t.map (a :: ·) ++ Kqb4.choose (k + 1) l, by rw [Kqb4.choose, e]; simp⟩
theorem filter_take {l : List Nat} (hn : l.Nodup) (k : Nat) : (l.filter fun i => !((l.take k).contains i)) = l.drop k := by
  have e : l = l.take k ++ l.drop k := (List.take_append_drop k l).symm
  have hd : ∀ a ∈ l.drop k, a ∉ l.take k := by
    rw [e, List.nodup_append] at hn
    intro a ha hb
    exact hn.2.2 a hb a ha rfl
  have h1 : (l.take k).filter (fun i => !((l.take k).contains i)) = [] := List.filter_eq_nil_iff.mpr fun a ha => by simp [ha]
  have h2 : (l.drop k).filter (fun i => !((l.take k).contains i)) = l.drop k := List.filter_eq_self.mpr fun a ha => by simp [hd a ha]
  calc (l.filter fun i => !((l.take k).contains i)) = ((l.take k ++ l.drop k).filter fun i => !((l.take k).contains i)) := by rw [← e]
    _ = l.drop k := by rw [List.filter_append, h1, h2, List.nil_append]
theorem ways_some {g : Nat} (hg : 0 < g) : ∀ (r f : Nat) (l : List Nat), l.Pairwise (· < ·) → (∀ x ∈ l, f ≤ x) → r * g ≤ l.length → Kqb4.ways g r f l ≠ []
  | 0, f, l, _, _, _ => by simp [Kqb4.ways]
  | r + 1, f, l, hs, hf, hl => by
    have hl' : g + r * g ≤ l.length := by rw [Nat.add_mul, Nat.one_mul] at hl; omega
    obtain ⟨t, e⟩ := choose_take g l (by omega)
    have hn : l.Nodup := hs.imp (fun h => Nat.ne_of_lt h)
    match l, hl', hs, hf, hn, e with
    | [], hl', _, _, _, _ => simp at hl'; omega
    | a :: l, hl', hs, hf, hn, e =>
    obtain ⟨k, rfl⟩ : ∃ k, g = k + 1 := ⟨g - 1, by omega⟩
    have ih := ways_some hg r a ((a :: l).drop (k + 1)) (hs.sublist (List.drop_sublist _ _)) (fun x hx => by
      have hx' : x ∈ l := by
        rw [List.drop_succ_cons] at hx
        exact (List.drop_sublist _ _).subset hx
      exact Nat.le_of_lt ((List.pairwise_cons.mp hs).1 x hx')) (by rw [List.length_drop]; omega)
    rw [Kqb4.ways, e, List.filter_cons_of_pos (by simpa using hf a (by simp)), List.flatMap_cons, filter_take hn]
    intro h
    rw [List.append_eq_nil_iff, List.map_eq_nil_iff] at h
    exact ih (by simpa using h.1)
theorem ways_none {g r f : Nat} {l : List Nat} (hs : l.Nodup) (hl : l.length < r * g) : Kqb4.ways g r f l = [] := by
  refine List.eq_nil_iff_forall_not_mem.mpr fun w hw => ?_
  obtain ⟨h1, h2⟩ := ways_len hw
  obtain ⟨h3, h4⟩ := ways_mem hs hw
  have : w.flatten.length = r * g := by
    rw [List.length_flatten]
    have : w.map List.length = List.replicate r g := by
      rw [List.eq_replicate_iff]
      refine ⟨by simpa using h1, fun b hb => ?_⟩
      obtain ⟨x, hx, rfl⟩ := List.mem_map.mp hb
      exact h2 x hx
    rw [this]; simp
  have hle : w.flatten.length ≤ l.length := by
    exact nodup_le h4 h3
  omega
end CP
end

section
set_option linter.all false
namespace CP
open Kqb4
theorem foldl_min_le : ∀ (l : List Nat) (a : Nat), l.foldl min a ≤ a ∧ ∀ y ∈ l, l.foldl min a ≤ y
  | [], a => by simp
  | x :: l, a => by
    obtain ⟨h1, h2⟩ := foldl_min_le l (min a x)
    rw [List.foldl_cons]
    refine ⟨by omega, fun y hy => ?_⟩
    rcases List.mem_cons.mp hy with rfl | hy
    · omega
    · exact h2 y hy
theorem foldl_min_mem : ∀ (l : List Nat) (a : Nat), l.foldl min a = a ∨ l.foldl min a ∈ l
  | [], a => by simp
  | x :: l, a => by
    rw [List.foldl_cons]
    rcases foldl_min_mem l (min a x) with h | h
    · rw [h]
      by_cases hx : a ≤ x
      · left; omega
      · right; rw [show min a x = x by omega]; simp
    · right; simp [h]
theorem foldl_max_ge : ∀ (l : List Nat) (a : Nat), a ≤ l.foldl max a ∧ ∀ y ∈ l, y ≤ l.foldl max a
  | [], a => by simp
  | x :: l, a => by
    obtain ⟨h1, h2⟩ := foldl_max_ge l (max a x)
    rw [List.foldl_cons]
    refine ⟨by omega, fun y hy => ?_⟩
    rcases List.mem_cons.mp hy with rfl | hy
    · omega
    · exact h2 y hy
theorem foldl_max_mem : ∀ (l : List Nat) (a : Nat), l.foldl max a = a ∨ l.foldl max a ∈ l
  | [], a => by simp
  | x :: l, a => by
    rw [List.foldl_cons]
    rcases foldl_max_mem l (max a x) with h | h
    · rw [h]
      by_cases hx : x ≤ a
      · left; omega
      · right; rw [show max a x = x by omega]; simp
    · right; simp [h]
theorem least_le {l : List Nat} {y : Nat} (h : y ∈ l) : least l ≤ y := (foldl_min_le l _).2 y h
theorem least_mem {l : List Nat} (h : l ≠ []) : least l ∈ l := by
  unfold least
  rcases foldl_min_mem l (l.headD 0) with e | e
  · rw [e]
    cases l with
    | nil => exact absurd rfl h
    | cons a l => simp
  · exact e
theorem le_greatest {l : List Nat} {y : Nat} (h : y ∈ l) : y ≤ greatest l := (foldl_max_ge l _).2 y h
theorem greatest_mem {l : List Nat} (h : l ≠ []) : greatest l ∈ l := by
  unfold greatest
  rcases foldl_max_mem l 0 with e | e
  · cases l with
    | nil => exact absurd rfl h
    | cons a l =>
      have := (foldl_max_ge (a :: l) 0).2 a (by simp)
      rw [e] at this
      rw [e, show a = 0 by omega]; simp
  · exact e
theorem least_eq {l : List Nat} {m : Nat} (h1 : m ∈ l) (h2 : ∀ y ∈ l, m ≤ y) : m = least l := by
  have a := least_le h1
  have b := h2 _ (least_mem (List.ne_nil_of_mem h1))
  omega
theorem greatest_eq {l : List Nat} {m : Nat} (h1 : m ∈ l) (h2 : ∀ y ∈ l, y ≤ m) : m = greatest l := by
  have a := le_greatest h1
  have b := h2 _ (greatest_mem (List.ne_nil_of_mem h1))
  omega
theorem least_le_greatest (l : List Nat) (h : l ≠ []) : least l ≤ greatest l := le_greatest (least_mem h)
/-! groups by places -/
def cutAt (g : Nat) (l : List Nat) (k : Nat) : List Nat := (l.drop (k * g)).take g
def cuts (g : Nat) (l : List Nat) : List (List Nat) := (List.range ((l.length + g - 1) / g)).map (cutAt g l)
def sumOf (hs : List Nat) (l : List Nat) : Nat := Kqb4.sum (l.map fun i => hs.getD i 0)
def tots (g : Nat) (hs l : List Nat) : List Nat := (cuts g l).map (sumOf hs)
theorem flat_len {g : Nat} : ∀ {w : List (List Nat)}, (∀ x ∈ w, x.length = g) → w.flatten.length = w.length * g
  | [], _ => by simp
  | a :: w, h => by
    rw [List.flatten_cons, List.length_append, flat_len fun x hx => h x (by simp [hx]), h a (by simp), List.length_cons, Nat.add_mul, Nat.one_mul]
    omega
theorem cutAt_flat {g : Nat} : ∀ {w : List (List Nat)} {k : Nat} {x : List Nat}, (∀ x ∈ w, x.length = g) → w[k]? = some x → cutAt g w.flatten k = x
  | [], k, x, _, h => by simp at h
  | a :: w, 0, x, hl, h => by
    have e : a = x := Option.some.inj h
    subst e
    have := hl a (by simp)
    unfold cutAt
    rw [Nat.zero_mul, List.drop_zero, List.flatten_cons, List.take_append_of_le_length (by omega), List.take_of_length_le (by omega)]
  | a :: w, k + 1, x, hl, h => by
    have ih := cutAt_flat (w := w) (k := k) (x := x) (fun y hy => hl y (by simp [hy])) (by simpa using h)
    have := hl a (by simp)
    unfold cutAt at ih ⊢
    rw [List.flatten_cons, List.drop_append, List.drop_of_length_le (by rw [this, Nat.add_mul]; omega), List.nil_append, show (k + 1) * g - a.length = k * g by rw [this, Nat.add_mul]; omega]
    exact ih
theorem cuts_flat {g : Nat} (hg : 0 < g) {w : List (List Nat)} (h : ∀ x ∈ w, x.length = g) : cuts g w.flatten = w := by
  have hn : (w.flatten.length + g - 1) / g = w.length := by
    rw [flat_len h]
    have : (w.length * g + g - 1) = (g - 1) + w.length * g := by omega
    rw [this, Nat.add_mul_div_right _ _ hg, Nat.div_eq_of_lt (by omega)]
    omega
  unfold cuts
  rw [hn]
  refine List.ext_getElem? fun k => ?_
  rw [List.getElem?_map]
  by_cases hk : k < w.length
  · rw [List.getElem?_range hk]
    obtain ⟨x, hx⟩ : ∃ x, w[k]? = some x := ⟨_, List.getElem?_eq_getElem hk⟩
    rw [hx]
    show some (cutAt g w.flatten k) = some x
    rw [cutAt_flat h hx]
  · rw [List.getElem?_eq_none (by simpa using hk), List.getElem?_eq_none (by omega)]
    rfl
theorem cut_mem {g k i : Nat} {l : List Nat} (h : i ∈ cutAt g l k) : i ∈ l := List.mem_of_mem_drop (List.mem_of_mem_take h)
/-! better, by the two numbers -/
def worse (a b : Nat × Nat) : Bool := decide (a.1 < b.1) || (a.1 == b.1 && decide (b.2 < a.2))
end CP
end

section
set_option linter.all false
namespace CP
open Kqb4
/-! What the specification's match_ is, by the program's own fold over flat dealings. -/
def keyOf (g : Nat) (hs d : List Nat) : Nat × Nat := (least (tots g hs d), greatest (tots g hs d) - least (tots g hs d))
theorem loose_sorted (y : Shop) : (loose y).Pairwise (· < ·) := List.Pairwise.filter _ List.pairwise_lt_range
theorem loose_mem {y : Shop} {i : Nat} (h : i ∈ loose y) : i < y.cells.length := List.mem_range.mp (List.mem_filter.mp h).1
theorem sumOf_group (y : Shop) (l : List Nat) : sumOf (y.cells.map fun x => x.holds) l = group y l := by
  unfold sumOf group
  congr 1
  refine List.map_congr_left fun i _ => ?_
  unfold holds
  rw [List.getD_eq_getElem?_getD, List.getElem?_map]
theorem tots_flat {g : Nat} (hg : 0 < g) (y : Shop) {w : List (List Nat)} (h : ∀ x ∈ w, x.length = g) : tots g (y.cells.map fun x => x.holds) w.flatten = w.map (group y) := by
  unfold tots
  rw [cuts_flat hg h]
  exact List.map_congr_left fun l _ => sumOf_group y l
theorem key_flat {g : Nat} (hg : 0 < g) (y : Shop) {w : List (List Nat)} (h : ∀ x ∈ w, x.length = g) : keyOf g (y.cells.map fun x => x.holds) w.flatten = (strength y w, spread y w) := by
  unfold keyOf
  rw [tots_flat hg y h]
  rfl
theorem worse_better (y : Shop) (v w : List (List Nat)) : worse (strength y v, spread y v) (strength y w, spread y w) = better y w v := by
  unfold worse better
  generalize strength y v = a
  generalize strength y w = b
  have : (a == b) = (b == a) := by
    by_cases h : a = b
    · rw [h]
    · rw [beq_eq_false_iff_ne.mpr h, beq_eq_false_iff_ne.mpr (Ne.symm h)]
  show (decide (a < b) || (a == b && _)) = (decide (a < b) || (b == a && _))
  rw [this]
def pick (g : Nat) (hs : List Nat) (b : Option (List Nat)) (d : List Nat) : Option (List Nat) := match b with
  | none => some d
  | some v => if worse (keyOf g hs v) (keyOf g hs d) = true then some d else some v
theorem fold_flat {g : Nat} (hg : 0 < g) (y : Shop) : ∀ (ws : List (List (List Nat))) (b : Option (List (List Nat))), (∀ w ∈ ws, ∀ x ∈ w, x.length = g) → (∀ w, b = some w → ∀ x ∈ w, x.length = g) →
    (ws.map List.flatten).foldl (pick g (y.cells.map fun x => x.holds)) (b.map List.flatten) = (ws.foldl (fun (b : Option (List (List Nat))) w => match b with
      | none => some w
      | some v => if better y w v then some w else some v) b).map List.flatten
  | [], b, _, _ => rfl
  | w :: ws, b, hw, hb => by
    have hw1 := hw w (by simp)
    have e : pick g (y.cells.map fun x => x.holds) (b.map List.flatten) w.flatten = (match b with
      | none => some w
      | some v => if better y w v then some w else some v).map List.flatten := by
      cases b with
      | none => rfl
      | some v =>
        show (if worse (keyOf g _ v.flatten) (keyOf g _ w.flatten) = true then some w.flatten else some v.flatten) = _
        rw [key_flat hg y (hb v rfl), key_flat hg y hw1, worse_better]
        by_cases h : better y w v = true
        · rw [if_pos h]; simp [h]
        · rw [if_neg h]; simp [h]
    rw [List.map_cons, List.foldl_cons, List.foldl_cons, e]
    refine fold_flat hg y ws _ (fun w hw' => hw w (by simp [hw'])) fun w' hw' => ?_
    cases b with
    | none => cases hw'; exact hw1
    | some v =>
      have hw' : (if better y w v then some w else some v) = some w' := hw'
      by_cases h : better y w v = true
      · rw [if_pos h] at hw'; cases hw'; exact hw1
      · rw [if_neg h] at hw'; cases hw'; exact hb _ rfl
/-- the program's fold gives the specification's, flat -/
theorem match_flat {g : Nat} (hg : 0 < g) (y : Shop) (r : Nat) : (grown (loose y) g (r * g)).foldl (pick g (y.cells.map fun x => x.holds)) none = (match_ y r g).map List.flatten := by
  rw [grown_ways (loose_sorted y) hg r]
  exact fold_flat hg y (ways g r 0 (loose y)) none (fun w hw => (ways_len hw).2) (fun _ h => by cases h)
def stepB {α : Type} (f : α → α → Bool) (b : Option α) (w : α) : Option α := match b with
  | none => some w
  | some v => if f w v then some w else some v
theorem match_stepB (y : Shop) (r g : Nat) : match_ y r g = (ways g r 0 (loose y)).foldl (stepB (better y)) none := by
  unfold match_
  congr 1
  funext b w
  cases b <;> rfl
theorem fold_mem {α : Type} {f : α → α → Bool} : ∀ (ws : List α) (b : Option α) (v : α), ws.foldl (stepB f) b = some v → v ∈ ws ∨ b = some v
  | [], b, v, h => .inr h
  | w :: ws, b, v, h => by
    rw [List.foldl_cons] at h
    rcases fold_mem ws _ v h with h | h
    · exact .inl (by simp [h])
    · cases b with
      | none => cases h; exact .inl (by simp)
      | some u =>
        have h : (if f w u then some w else some u) = some v := h
        by_cases e : f w u = true
        · rw [if_pos e] at h; cases h; exact .inl (by simp)
        · rw [if_neg e] at h; exact .inr h
theorem fold_some {α : Type} {f : α → α → Bool} : ∀ (ws : List α) (v : α), ws.foldl (stepB f) (some v) ≠ none
  | [], v => by simp
  | w :: ws, v => by
    rw [List.foldl_cons]
    show ws.foldl _ (if f w v then some w else some v) ≠ none
    by_cases e : f w v = true
    · rw [if_pos e]; exact fold_some ws w
    · rw [if_neg e]; exact fold_some ws v
theorem match_mem {y : Shop} {r g : Nat} {p : List (List Nat)} (h : match_ y r g = some p) : p ∈ ways g r 0 (loose y) := by
  rw [match_stepB] at h
  rcases fold_mem (f := better y) (ways g r 0 (loose y)) none p h with h | h
  · exact h
  · cases h
theorem loose_nodup (y : Shop) : (loose y).Nodup := (loose_sorted y).imp fun h => Nat.ne_of_lt h
theorem match_none {y : Shop} {r g : Nat} (h : (loose y).length < r * g) : match_ y r g = none := by
  unfold match_
  rw [ways_none (loose_nodup y) h]
  rfl
theorem match_some {y : Shop} {r g : Nat} (hg : 0 < g) (h : r * g ≤ (loose y).length) : ∃ p, match_ y r g = some p := by
  have hw := ways_some hg r 0 (loose y) (loose_sorted y) (fun _ _ => Nat.zero_le _) h
  cases e : match_ y r g with
  | some p => exact ⟨p, rfl⟩
  | none =>
    rw [match_stepB] at e
    cases hws : ways g r 0 (loose y) with
    | nil => exact absurd hws hw
    | cons w ws =>
      rw [hws, List.foldl_cons] at e
      exact absurd e (fold_some (f := better y) ws w)
/-- of the best dealing -/
theorem match_ok {y : Shop} {r g : Nat} {p : List (List Nat)} (h : match_ y r g = some p) : p.length = r ∧ (∀ x ∈ p, x.length = g) ∧ (∀ i ∈ p.flatten, i ∈ loose y) ∧ p.flatten.Nodup :=
  ⟨(ways_len (match_mem h)).1, (ways_len (match_mem h)).2, (ways_mem (loose_nodup y) (match_mem h)).1, (ways_mem (loose_nodup y) (match_mem h)).2⟩
end CP
end

section
set_option linter.all false
namespace CP
open Kqb4
/-! marking cells; a pack put in -/
theorem filterMap_all {α β : Type} {f : α → Option β} {g : α → β} : ∀ {l : List α}, (∀ x ∈ l, f x = some (g x)) → l.filterMap f = l.map g
  | [], _ => rfl
  | a :: l, h => by rw [List.filterMap_cons_some (h a (by simp)), filterMap_all fun x hx => h x (by simp [hx]), List.map_cons]
theorem mark_get (y : Shop) (l : List Nat) (p i : Nat) : (mark y l p)[i]? = (y.cells[i]?).map fun x => if l.contains i then { x with pack := p } else x := by
  unfold mark
  rw [filterMap_all (g := fun i => (((y.cells[i]?).map fun x => if l.contains i then { x with pack := p } else x).getD ⟨0, 0, 0, false⟩)) fun i hi => by
    rw [List.getElem?_eq_getElem (List.mem_range.mp hi)]; rfl]
  rw [List.getElem?_map]
  by_cases h : i < y.cells.length
  · rw [List.getElem?_range h, Option.map_some, List.getElem?_eq_getElem h]
    rfl
  · rw [List.getElem?_eq_none (by simpa using h), List.getElem?_eq_none (by omega)]
    rfl
theorem mark_len (y : Shop) (l : List Nat) (p : Nat) : (mark y l p).length = y.cells.length := by
  unfold mark
  rw [filterMap_all (g := fun i => (((y.cells[i]?).map fun x => if l.contains i then { x with pack := p } else x).getD ⟨0, 0, 0, false⟩)) fun i hi => by
    rw [List.getElem?_eq_getElem (List.mem_range.mp hi)]; rfl]
  simp
theorem mark_nil (y : Shop) (p : Nat) : mark y [] p = y.cells := by
  refine List.ext_getElem? fun i => ?_
  rw [mark_get]
  cases y.cells[i]? <;> rfl
theorem mark_snoc {y : Shop} {l : List Nat} {p i : Nat} {x : Cell} (h : (mark y l p)[i]? = some x) : mark y (l ++ [i]) p = (mark y l p).set i { x with pack := p } := by
  have hi : i < (mark y l p).length := (List.getElem?_eq_some_iff.mp h).1
  refine List.ext_getElem? fun k => ?_
  rw [mark_get]
  by_cases e : k = i
  · subst e
    rw [List.getElem?_set_self hi]
    rw [mark_get] at h
    cases hx : y.cells[k]? with
    | none => rw [hx] at h; cases h
    | some z =>
      rw [hx] at h
      have h : (if l.contains k then { z with pack := p } else z) = x := Option.some.inj h
      have e1 : (l ++ [k]).contains k = true := by simp
      show some (if (l ++ [k]).contains k = true then { z with pack := p } else z) = some { x with pack := p }
      rw [if_pos e1, ← h]
      by_cases e2 : l.contains k = true
      · rw [if_pos e2]
      · rw [if_neg e2]
  · rw [List.getElem?_set_ne (Ne.symm e), mark_get]
    have e1 : (l ++ [i]).contains k = l.contains k := by simp [e]
    rw [e1]
theorem slot_le' {α : Type} (l : List (Option α)) : slot l ≤ l.length := by
  unfold slot
  cases e : l.findIdx? Option.isNone with
  | none => exact Nat.le_refl _
  | some i => exact Nat.le_of_lt (List.findIdx?_eq_some_iff_getElem.mp e).1
theorem putIn_get {α : Type} (l : List (Option α)) (x : α) (m : Nat) : (putIn l x)[m]? = if m = slot l then some (some x) else l[m]? := by
  unfold putIn
  have hs := slot_le' l
  by_cases h : slot l < l.length
  · rw [if_pos h]
    by_cases e : m = slot l
    · rw [if_pos e, e, List.getElem?_set_self h]
    · rw [if_neg e, List.getElem?_set_ne (Ne.symm e)]
  · rw [if_neg h]
    have hl : slot l = l.length := by omega
    by_cases e : m = slot l
    · rw [if_pos e, e, hl]; simp
    · rw [if_neg e, List.getElem?_append]
      by_cases h2 : m < l.length
      · rw [if_pos h2]
      · rw [if_neg h2, List.getElem?_eq_none (l := l) (by omega)]
        have : 1 ≤ m - l.length := by omega
        exact List.getElem?_eq_none (by simpa using this)
/-! counts of grades -/
def cnts (nb : Nat) (gr : Nat → Nat) (l : List Nat) : List Nat := (List.range (nb + 1)).map fun k => (l.filter fun i => gr i == k).length
theorem cnts_nil (nb : Nat) (gr : Nat → Nat) : cnts nb gr [] = List.replicate (nb + 1) 0 := by
  unfold cnts
  rw [List.eq_replicate_iff]
  refine ⟨by simp, fun b hb => ?_⟩
  obtain ⟨k, _, rfl⟩ := List.mem_map.mp hb
  rfl
theorem cnts_get {nb : Nat} {gr : Nat → Nat} {l : List Nat} {k : Nat} (h : k ≤ nb) : (cnts nb gr l)[k]? = some ((l.filter fun i => gr i == k).length) := by
  unfold cnts
  rw [List.getElem?_map, List.getElem?_range (by omega)]
  rfl
theorem cnts_len (nb : Nat) (gr : Nat → Nat) (l : List Nat) : (cnts nb gr l).length = nb + 1 := by simp [cnts]
theorem cnts_snoc {nb : Nat} {gr : Nat → Nat} {l : List Nat} {i : Nat} (h : gr i ≤ nb) : cnts nb gr (l ++ [i]) = (cnts nb gr l).set (gr i) ((l.filter fun j => gr j == gr i).length + 1) := by
  refine List.ext_getElem? fun k => ?_
  by_cases hk : k ≤ nb
  · rw [cnts_get hk, List.filter_append, List.length_append]
    by_cases e : k = gr i
    · subst e
      rw [List.getElem?_set_self (by rw [cnts_len]; omega)]
      simp
    · rw [List.getElem?_set_ne (Ne.symm e), cnts_get hk]
      have : (gr i == k) = false := beq_eq_false_iff_ne.mpr (Ne.symm e)
      simp [this]
  · rw [List.getElem?_eq_none (by rw [cnts_len]; omega), List.getElem?_eq_none (by rw [List.length_set, cnts_len]; omega)]
end CP
end

section
set_option linter.all false
namespace CP
open Kqb4
/-! What holds of every shop that the calls reach. -/
structure Good (y : Shop) : Prop where
  nb : y.bounds.length ≤ 6
  nc : y.cells.length ≤ 24
  np : y.packs.length ≤ 24
  ne : ∀ (n : Nat) q, y.packs[n]? = some (some q) → q ≠ []
  gs : ∀ (n : Nat) q, y.packs[n]? = some (some q) → ∃ g, 0 < g ∧ g ≤ 4 ∧ ∀ l ∈ q, l.length = g
  le : ∀ (n : Nat) q, y.packs[n]? = some (some q) → q.length ≤ 4
  nd : ∀ (n : Nat) q, y.packs[n]? = some (some q) → q.flatten.Nodup
  inn : ∀ (n : Nat) q, y.packs[n]? = some (some q) → ∀ i ∈ q.flatten, ∃ x, y.cells[i]? = some x ∧ x.pack = n + 1 ∧ x.scrap = false
  out : ∀ (i : Nat) x (n : Nat), y.cells[i]? = some x → x.pack = n + 1 → ∃ q, y.packs[n]? = some (some q) ∧ i ∈ q.flatten
  ok : ∀ (i : Nat) x, y.cells[i]? = some x → okCell x.holds x.resists = true
/-- the cells' own numbers change, no pack does -/
theorem Good.setCells {y : Shop} (G : Good y) {cs : List Cell} (hl : cs.length ≤ 24) (h1 : ∀ (i : Nat) x, y.cells[i]? = some x → x.pack ≠ 0 → ∃ x', cs[i]? = some x' ∧ x'.pack = x.pack ∧ x'.scrap = x.scrap)
    (h2 : ∀ (i : Nat) x', cs[i]? = some x' → x'.pack ≠ 0 → ∃ x, y.cells[i]? = some x ∧ x.pack = x'.pack) (h3 : ∀ (i : Nat) x, cs[i]? = some x → okCell x.holds x.resists = true) : Good { y with cells := cs } := by
  refine ⟨G.nb, hl, G.np, G.ne, G.gs, G.le, G.nd, fun n q hq i hi => ?_, fun i x n hx hp => ?_, h3⟩
  · obtain ⟨x, hx, hp, hs⟩ := G.inn n q hq i hi
    obtain ⟨x', hx', e1, e2⟩ := h1 i x hx (by omega)
    exact ⟨x', hx', by omega, by rw [e2, hs]⟩
  · obtain ⟨x0, hx0, e⟩ := h2 i x hx (by omega)
    exact G.out i x0 n hx0 (by omega)
theorem Good.addCell {y : Shop} (G : Good y) {h r : Nat} (hn : ¬ 24 ≤ y.cells.length) (hok : okCell h r = true) : Good { y with cells := y.cells ++ [⟨h, r, 0, false⟩] } := by
  refine G.setCells (by rw [List.length_append]; simp; omega) (fun i x hx hp => ?_) (fun i x hx hp => ?_) (fun i x hx => ?_)
  · exact ⟨x, by rw [List.getElem?_append_left (List.getElem?_eq_some_iff.mp hx).1]; exact hx, rfl, rfl⟩
  · rw [List.getElem?_append] at hx
    split at hx
    · exact ⟨x, hx, rfl⟩
    · have := List.mem_of_getElem? hx
      rw [List.mem_singleton] at this
      subst this
      exact absurd rfl hp
  · rw [List.getElem?_append] at hx
    split at hx
    · exact G.ok i x hx
    · have := List.mem_of_getElem? hx
      rw [List.mem_singleton] at this
      subst this
      exact hok
theorem Good.setLoose {y : Shop} (G : Good y) {i : Nat} {x x' : Cell} (hx : y.cells[i]? = some x) (h0 : x.pack = 0) (h1 : x'.pack = 0) (hok : okCell x'.holds x'.resists = true) : Good { y with cells := y.cells.set i x' } := by
  have hi : i < y.cells.length := (List.getElem?_eq_some_iff.mp hx).1
  refine G.setCells (by rw [List.length_set]; exact G.nc) (fun k z hz hp => ?_) (fun k z hz hp => ?_) (fun k z hz => ?_)
  · have e : k ≠ i := fun e => by rw [e, hx] at hz; cases hz; exact hp h0
    exact ⟨z, by rw [List.getElem?_set_ne (Ne.symm e)]; exact hz, rfl, rfl⟩
  · by_cases e : k = i
    · rw [e, List.getElem?_set_self hi] at hz
      cases hz
      exact absurd h1 hp
    · rw [List.getElem?_set_ne (Ne.symm e)] at hz
      exact ⟨z, hz, rfl⟩
  · by_cases e : k = i
    · rw [e, List.getElem?_set_self hi] at hz
      cases hz
      exact hok
    · rw [List.getElem?_set_ne (Ne.symm e)] at hz
      exact G.ok k z hz
theorem loose_cell {y : Shop} {i : Nat} (h : i ∈ loose y) : ∃ x, y.cells[i]? = some x ∧ x.pack = 0 ∧ x.scrap = false := by
  have hi := loose_mem h
  have h2 := (List.mem_filter.mp h).2
  unfold isLoose at h2
  rw [List.getElem?_eq_getElem hi] at h2
  refine ⟨_, List.getElem?_eq_getElem hi, ?_⟩
  have h2 : ((y.cells[i]).pack == 0 && !(y.cells[i]).scrap) = true := h2
  rw [Bool.and_eq_true, beq_iff_eq] at h2
  refine ⟨h2.1, ?_⟩
  cases e : (y.cells[i]).scrap with
  | false => rfl
  | true => rw [e] at h2; simp at h2
theorem slotN {α : Type} (l : List (Option α)) (q : α) : l[slot l]? ≠ some (some q) := by
  unfold slot
  cases e : l.findIdx? Option.isNone with
  | none =>
    show l[l.length]? ≠ _
    simp
  | some i =>
    obtain ⟨h, h1, _⟩ := List.findIdx?_eq_some_iff_getElem.mp e
    show l[i]? ≠ _
    rw [List.getElem?_eq_getElem h]
    intro z
    have z : l[i] = some q := Option.some.inj z
    rw [z] at h1
    simp at h1
theorem below_slot {α : Type} {l : List (Option α)} {n : Nat} (h : n < slot l) : ∃ q, l[n]? = some (some q) := by
  unfold slot at h
  cases e : l.findIdx? Option.isNone with
  | none =>
    rw [e] at h
    have h : n < l.length := h
    have := List.findIdx?_eq_none_iff.mp e l[n] (List.getElem_mem h)
    rw [List.getElem?_eq_getElem h]
    cases q : l[n] with
    | none => rw [q] at this; simp at this
    | some v => exact ⟨v, rfl⟩
  | some i =>
    rw [e] at h
    have h : n < i := h
    obtain ⟨hi, _, h2⟩ := List.findIdx?_eq_some_iff_getElem.mp e
    have := h2 n h
    rw [List.getElem?_eq_getElem (by omega)]
    cases q : l[n] with
    | none => simp [q] at this
    | some v => exact ⟨v, rfl⟩
theorem Good.build {y : Shop} (G : Good y) {r g : Nat} {p : List (List Nat)} (r0 : 0 < r) (r4 : r ≤ 4) (g0 : 0 < g) (g4 : g ≤ 4) (hm : match_ y r g = some p) :
    Good { y with cells := mark y p.flatten (slot y.packs + 1), packs := putIn y.packs p } := by
  obtain ⟨q1, q2, q3, q4⟩ := match_ok hm
  have hne : p ≠ [] := fun e => by rw [e] at q1; simp at q1; omega
  have hget : ∀ (n : Nat) q, (putIn y.packs p)[n]? = some (some q) → (n = slot y.packs ∧ q = p) ∨ (n ≠ slot y.packs ∧ y.packs[n]? = some (some q)) := fun n q h => by
    rw [putIn_get] at h
    by_cases e : n = slot y.packs
    · rw [if_pos e] at h
      exact .inl ⟨e, (Option.some.inj (Option.some.inj h)).symm⟩
    · rw [if_neg e] at h
      exact .inr ⟨e, h⟩
  have hin : ∀ (n : Nat) q, (putIn y.packs p)[n]? = some (some q) → ∀ i ∈ q.flatten, ∃ x, (mark y p.flatten (slot y.packs + 1))[i]? = some x ∧ x.pack = n + 1 ∧ x.scrap = false := fun n q h i hi => by
    rcases hget n q h with ⟨rfl, rfl⟩ | ⟨hn, h⟩
    · obtain ⟨x, hx, hp, hs⟩ := loose_cell (q3 i hi)
      refine ⟨_, by rw [mark_get, hx]; rfl, ?_, ?_⟩
      · have e : q.flatten.contains i = true := List.contains_iff_mem.mpr hi
        simp only [e, if_true]
      · have e : q.flatten.contains i = true := List.contains_iff_mem.mpr hi
        simp only [e, if_true, hs]
    · obtain ⟨x, hx, hp, hs⟩ := G.inn n q h i hi
      have e : ¬ i ∈ p.flatten := fun hm => by
        obtain ⟨x', hx', hp', _⟩ := loose_cell (q3 i hm)
        rw [hx] at hx'
        cases hx'
        omega
      have e : p.flatten.contains i = false := by
        cases q : p.flatten.contains i with
        | false => rfl
        | true => exact absurd (List.contains_iff_mem.mp q) e
      exact ⟨x, by rw [mark_get, hx]; simp only [Option.map_some, e]; rfl, hp, hs⟩
  have hnc : (mark y p.flatten (slot y.packs + 1)).length ≤ 24 := by rw [mark_len]; exact G.nc
  have hne' : ∀ (n : Nat) q, (putIn y.packs p)[n]? = some (some q) → q ≠ [] ∧ q.flatten ≠ [] := fun n q h => by
    rcases hget n q h with ⟨_, rfl⟩ | ⟨_, h⟩
    · refine ⟨hne, fun e => ?_⟩
      have := congrArg List.length e
      rw [flat_len q2, q1] at this
      have h2 : 0 < r * g := Nat.mul_pos r0 g0
      simp at this
      omega
    · have h1 := G.ne n q h
      refine ⟨h1, fun e => ?_⟩
      obtain ⟨g', g0', _, hl⟩ := G.gs n q h
      have := congrArg List.length e
      rw [flat_len hl] at this
      have h2 : 0 < q.length := List.length_pos_iff.mpr h1
      have h3 := Nat.mul_pos h2 g0'
      simp at this
      omega
  refine ⟨G.nb, hnc, ?_, fun n q h => (hne' n q h).1, fun n q h => ?_, fun n q h => ?_, fun n q h => ?_, hin, fun i x n hx hp => ?_, fun i x hx => ?_⟩
  · show (putIn y.packs p).length ≤ 24
    by_cases hs : slot y.packs < y.packs.length
    · unfold putIn
      rw [if_pos hs, List.length_set]
      exact G.np
    · have hsl : slot y.packs = y.packs.length := by have := slot_le' y.packs; omega
      have hlen : (putIn y.packs p).length = y.packs.length + 1 := by unfold putIn; rw [if_neg hs]; simp
      have key : ((List.range (y.packs.length + 1)).map fun n => n + 1).length ≤ ((mark y p.flatten (slot y.packs + 1)).map fun x => x.pack).length := by
        refine nodup_le ?_ fun k hk => ?_
        · have hnd : (List.range (y.packs.length + 1)).Nodup := List.nodup_range
          exact List.Pairwise.map (fun n => n + 1) (fun a b (h : a ≠ b) (e : a + 1 = b + 1) => h (by omega)) hnd
        · obtain ⟨n, hn, rfl⟩ := List.mem_map.mp hk
          have hn := List.mem_range.mp hn
          obtain ⟨q, hq⟩ : ∃ q, (putIn y.packs p)[n]? = some (some q) := by
            rw [putIn_get]
            by_cases e : n = slot y.packs
            · exact ⟨p, by rw [if_pos e]⟩
            · rw [if_neg e]
              exact below_slot (by omega)
          obtain ⟨i, hi⟩ := List.exists_mem_of_ne_nil _ (hne' n q hq).2
          obtain ⟨x, hx, hp, _⟩ := hin n q hq i hi
          exact List.mem_map.mpr ⟨x, List.mem_of_getElem? hx, hp⟩
      rw [List.length_map, List.length_map, List.length_range] at key
      omega
  · rcases hget n q h with ⟨_, rfl⟩ | ⟨_, h⟩
    · exact ⟨g, g0, g4, q2⟩
    · exact G.gs n q h
  · rcases hget n q h with ⟨_, rfl⟩ | ⟨_, h⟩
    · omega
    · exact G.le n q h
  · rcases hget n q h with ⟨_, rfl⟩ | ⟨_, h⟩
    · exact q4
    · exact G.nd n q h
  · have hx : (mark y p.flatten (slot y.packs + 1))[i]? = some x := hx
    rw [mark_get] at hx
    cases hc : y.cells[i]? with
    | none => rw [hc] at hx; cases hx
    | some z =>
      rw [hc] at hx
      have hx : (if p.flatten.contains i then { z with pack := slot y.packs + 1 } else z) = x := Option.some.inj hx
      by_cases e : p.flatten.contains i = true
      · rw [if_pos e] at hx
        subst hx
        have hn : n = slot y.packs := by
          have : slot y.packs + 1 = n + 1 := hp
          omega
        exact ⟨p, by show (putIn y.packs p)[n]? = _; rw [putIn_get, if_pos hn], List.contains_iff_mem.mp e⟩
      · rw [if_neg e] at hx
        subst hx
        obtain ⟨q, hq, hi⟩ := G.out i z n hc hp
        exact ⟨q, by show (putIn y.packs p)[n]? = _; rw [putIn_get, if_neg (fun e => by rw [e] at hq; exact slotN _ _ hq)]; exact hq, hi⟩
  · have hx : (mark y p.flatten (slot y.packs + 1))[i]? = some x := hx
    rw [mark_get] at hx
    cases hc : y.cells[i]? with
    | none => rw [hc] at hx; cases hx
    | some z =>
      rw [hc] at hx
      have hx : (if p.flatten.contains i then { z with pack := slot y.packs + 1 } else z) = x := Option.some.inj hx
      have := G.ok i z hc
      by_cases e : p.flatten.contains i = true
      · rw [if_pos e] at hx
        subst hx
        exact this
      · rw [if_neg e] at hx
        subst hx
        exact this
theorem put_flat (q : List (List Nat)) (i j : Nat) : (put q i j).flatten = q.flatten.map fun x => if x = i then j else x := by
  unfold put
  induction q with
  | nil => rfl
  | cons a q ih => rw [List.map_cons, List.flatten_cons, ih, List.flatten_cons, List.map_append]
theorem put_lens {q : List (List Nat)} {i j g : Nat} (h : ∀ l ∈ q, l.length = g) : ∀ l ∈ put q i j, l.length = g := fun l hl => by
  unfold put at hl
  obtain ⟨a, ha, rfl⟩ := List.mem_map.mp hl
  rw [List.length_map]
  exact h a ha
theorem packs_map {l : List (Option (List (List Nat)))} {i j n : Nat} {q' : List (List Nat)} (h : (l.map fun p => p.map fun q => put q i j)[n]? = some (some q')) : ∃ q, l[n]? = some (some q) ∧ q' = put q i j := by
  rw [List.getElem?_map] at h
  cases e : l[n]? with
  | none => rw [e] at h; cases h
  | some v =>
    rw [e] at h
    cases v with
    | none => cases h
    | some q =>
      refine ⟨q, rfl, ?_⟩
      have h : some (some (put q i j)) = some (some q') := h
      cases h
      rfl
theorem Good.exchange {y : Shop} (G : Good y) {i j : Nat} {x z : Cell} (hx : y.cells[i]? = some x) (hz : y.cells[j]? = some z) (h0 : x.pack ≠ 0) (hj : isLoose y j = true) :
    Good { y with cells := (y.cells.set i { x with pack := 0 }).set j { z with pack := x.pack }, packs := y.packs.map fun p => p.map fun q => put q i j } := by
  have hil : i < y.cells.length := (List.getElem?_eq_some_iff.mp hx).1
  have hjl : j < y.cells.length := (List.getElem?_eq_some_iff.mp hz).1
  have hjm : j ∈ loose y := List.mem_filter.mpr ⟨List.mem_range.mpr hjl, hj⟩
  obtain ⟨z', hz', z0, zs⟩ := loose_cell hjm
  rw [hz] at hz'
  cases hz'
  have hij : i ≠ j := fun e => by rw [e, hz] at hx; cases hx; exact h0 z0
  obtain ⟨n0, hn0⟩ : ∃ n0, x.pack = n0 + 1 := ⟨x.pack - 1, by omega⟩
  obtain ⟨q0, hq0, hi0⟩ := G.out i x n0 hx hn0
  have nj : ∀ (n : Nat) q, y.packs[n]? = some (some q) → j ∉ q.flatten := fun n q hq hm => by
    obtain ⟨x', hx', hp, _⟩ := G.inn n q hq j hm
    rw [hz] at hx'
    cases hx'
    omega
  have cget : ∀ k : Nat, ((y.cells.set i { x with pack := 0 }).set j { z with pack := x.pack })[k]? = if k = j then some { z with pack := x.pack } else if k = i then some { x with pack := 0 } else y.cells[k]? := fun k => by
    by_cases e : k = j
    · rw [if_pos e, e, List.getElem?_set_self (by rw [List.length_set]; exact hjl)]
    · rw [if_neg e, List.getElem?_set_ne (Ne.symm e)]
      by_cases e2 : k = i
      · rw [if_pos e2, e2, List.getElem?_set_self hil]
      · rw [if_neg e2, List.getElem?_set_ne (Ne.symm e2)]
  refine ⟨G.nb, by show ((y.cells.set i _).set j _).length ≤ 24; rw [List.length_set, List.length_set]; exact G.nc, by show (y.packs.map _).length ≤ 24; rw [List.length_map]; exact G.np, fun n q h => ?_, fun n q h => ?_, fun n q h => ?_, fun n q h => ?_, fun n q h k hk => ?_, fun k u n hu hp => ?_, fun k u hu => ?_⟩
  · obtain ⟨q1, h1, rfl⟩ := packs_map h
    intro e
    unfold put at e
    exact G.ne n q1 h1 (List.map_eq_nil_iff.mp e)
  · obtain ⟨q1, h1, rfl⟩ := packs_map h
    obtain ⟨g, g0, g4, hl⟩ := G.gs n q1 h1
    exact ⟨g, g0, g4, put_lens hl⟩
  · obtain ⟨q1, h1, rfl⟩ := packs_map h
    unfold put
    rw [List.length_map]
    exact G.le n q1 h1
  · obtain ⟨q1, h1, rfl⟩ := packs_map h
    rw [put_flat]
    have hnj := nj n q1 h1
    have hnd := G.nd n q1 h1
    generalize q1.flatten = l at hnj hnd
    induction l with
    | nil => simp
    | cons a l ih =>
      obtain ⟨n1, n2⟩ := List.nodup_cons.mp hnd
      rw [List.map_cons, List.nodup_cons]
      refine ⟨fun hm => ?_, ih (fun h => hnj (by simp [h])) n2⟩
      obtain ⟨b, hb, e⟩ := List.mem_map.mp hm
      have haj : a ≠ j := fun e => hnj (by simp [e])
      have hbj : b ≠ j := fun e => hnj (by rw [← e]; simp [hb])
      have hab : a ≠ b := fun e => n1 (e ▸ hb)
      by_cases e1 : b = i
      · rw [if_pos e1] at e
        by_cases e2 : a = i
        · exact hab (by omega)
        · rw [if_neg e2] at e
          exact haj e.symm
      · rw [if_neg e1] at e
        by_cases e2 : a = i
        · rw [if_pos e2] at e
          exact hbj e
        · rw [if_neg e2] at e
          exact hab e.symm
  · obtain ⟨q1, h1, rfl⟩ := packs_map h
    rw [put_flat] at hk
    obtain ⟨b, hb, e⟩ := List.mem_map.mp hk
    obtain ⟨xb, hxb, hpb, hsb⟩ := G.inn n q1 h1 b hb
    show ∃ x_1, ((y.cells.set i { x with pack := 0 }).set j { z with pack := x.pack })[k]? = some x_1 ∧ _
    rw [cget]
    by_cases e1 : b = i
    · rw [if_pos e1] at e
      rw [if_pos e.symm]
      rw [e1, hx] at hxb
      cases hxb
      exact ⟨_, rfl, hpb, zs⟩
    · rw [if_neg e1] at e
      subst e
      rw [if_neg (fun (e : b = j) => nj n q1 h1 (e ▸ hb)), if_neg e1]
      exact ⟨xb, hxb, hpb, hsb⟩
  · have hu : ((y.cells.set i { x with pack := 0 }).set j { z with pack := x.pack })[k]? = some u := hu
    rw [cget] at hu
    have hmem : ∀ (q : List (List Nat)) (n : Nat), y.packs[n]? = some (some q) → (y.packs.map fun p => p.map fun q => put q i j)[n]? = some (some (put q i j)) := fun q n h => by rw [List.getElem?_map, h]; rfl
    by_cases e : k = j
    · rw [if_pos e] at hu
      cases hu
      have hp : x.pack = n + 1 := hp
      have : n = n0 := by omega
      subst this
      refine ⟨_, hmem q0 n hq0, ?_⟩
      rw [put_flat, e]
      exact List.mem_map.mpr ⟨i, hi0, if_pos rfl⟩
    · rw [if_neg e] at hu
      by_cases e2 : k = i
      · rw [if_pos e2] at hu
        cases hu
        cases hp
      · rw [if_neg e2] at hu
        obtain ⟨q, hq, hk⟩ := G.out k u n hu hp
        refine ⟨_, hmem q n hq, ?_⟩
        rw [put_flat]
        exact List.mem_map.mpr ⟨k, hk, if_neg e2⟩
  · have hu : ((y.cells.set i { x with pack := 0 }).set j { z with pack := x.pack })[k]? = some u := hu
    rw [cget] at hu
    by_cases e : k = j
    · rw [if_pos e] at hu
      cases hu
      exact G.ok j z hz
    · rw [if_neg e] at hu
      by_cases e2 : k = i
      · rw [if_pos e2] at hu
        cases hu
        exact G.ok i x hx
      · rw [if_neg e2] at hu
        exact G.ok k u hu
theorem Good.retire {y : Shop} (G : Good y) {p : Nat} {x : List (List Nat)} (hp : y.packs[p]? = some (some x)) : Good { y with cells := mark y x.flatten 0, packs := y.packs.set p none } := by
  have hpl : p < y.packs.length := (List.getElem?_eq_some_iff.mp hp).1
  have hget : ∀ (n : Nat) q, (y.packs.set p none)[n]? = some (some q) → n ≠ p ∧ y.packs[n]? = some (some q) := fun n q h => by
    by_cases e : n = p
    · rw [e, List.getElem?_set_self hpl] at h
      cases h
    · rw [List.getElem?_set_ne (Ne.symm e)] at h
      exact ⟨e, h⟩
  refine ⟨G.nb, by show (mark y _ _).length ≤ 24; rw [mark_len]; exact G.nc, by show (y.packs.set p none).length ≤ 24; rw [List.length_set]; exact G.np, fun n q h => G.ne n q (hget n q h).2, fun n q h => G.gs n q (hget n q h).2, fun n q h => G.le n q (hget n q h).2, fun n q h => G.nd n q (hget n q h).2, fun n q h i hi => ?_, fun i u n hu hpk => ?_, fun i u hu => ?_⟩
  · obtain ⟨hn, h⟩ := hget n q h
    obtain ⟨u, hu, hpu, hs⟩ := G.inn n q h i hi
    have e : x.flatten.contains i = false := by
      cases e : x.flatten.contains i with
      | false => rfl
      | true =>
        obtain ⟨u', hu', hpu', _⟩ := G.inn p x hp i (List.contains_iff_mem.mp e)
        rw [hu] at hu'
        cases hu'
        omega
    exact ⟨u, by show (mark y x.flatten 0)[i]? = _; rw [mark_get, hu]; simp only [Option.map_some, e]; rfl, hpu, hs⟩
  · have hu : (mark y x.flatten 0)[i]? = some u := hu
    rw [mark_get] at hu
    cases hc : y.cells[i]? with
    | none => rw [hc] at hu; cases hu
    | some z =>
      rw [hc] at hu
      have hu : (if x.flatten.contains i then { z with pack := 0 } else z) = u := Option.some.inj hu
      by_cases e : x.flatten.contains i = true
      · rw [if_pos e] at hu
        subst hu
        cases hpk
      · rw [if_neg e] at hu
        subst hu
        obtain ⟨q, hq, hi⟩ := G.out i z n hc hpk
        have hn : n ≠ p := fun en => by
          rw [en, hp] at hq
          cases hq
          exact e (List.contains_iff_mem.mpr hi)
        exact ⟨q, by show (y.packs.set p none)[n]? = _; rw [List.getElem?_set_ne (Ne.symm hn)]; exact hq, hi⟩
  · have hu : (mark y x.flatten 0)[i]? = some u := hu
    rw [mark_get] at hu
    cases hc : y.cells[i]? with
    | none => rw [hc] at hu; cases hu
    | some z =>
      rw [hc] at hu
      have hu : (if x.flatten.contains i then { z with pack := 0 } else z) = u := Option.some.inj hu
      have := G.ok i z hc
      by_cases e : x.flatten.contains i = true
      · rw [if_pos e] at hu
        subst hu
        exact this
      · rw [if_neg e] at hu
        subst hu
        exact this
theorem okSize_is' {r g : Nat} (h : okSize r g = true) : 0 < r ∧ r ≤ 4 ∧ 0 < g ∧ g ≤ 4 ∧ r * g ≤ 8 := by
  unfold okSize at h
  simp only [Bool.and_eq_true, decide_eq_true_eq] at h
  obtain ⟨⟨⟨⟨h1, h2⟩, h3⟩, h4⟩, h5⟩ := h
  exact ⟨h1, h2, h3, h4, h5⟩
theorem bt {b : Bool} (h : ¬ b = false) : b = true := by cases b <;> simp_all
/-- every call leaves a good shop good -/
theorem good_step {y y' : Shop} {c : Call} (G : Good y) (h : (step (some y) c).1 = some y') : Good y' := by
  cases c with
  | start l =>
    simp only [step] at h
    by_cases hb : okBounds l = false
    · rw [if_pos hb] at h; cases h; exact G
    · rw [if_neg hb] at h
      cases h
      have hb := bt hb
      unfold okBounds at hb
      simp only [Bool.and_eq_true, decide_eq_true_eq] at hb
      exact ⟨hb.1.1, by simp, by simp, by simp, by simp, by simp, by simp, by simp, by simp, by simp⟩
  | cell hh rr =>
    simp only [step] at h
    by_cases hb : okCell hh rr = false
    · rw [if_pos hb] at h; cases h; exact G
    · rw [if_neg hb] at h
      by_cases h24 : 24 ≤ y.cells.length
      · rw [if_pos h24] at h; cases h; exact G
      · rw [if_neg h24] at h; cases h
        exact G.addCell h24 (bt hb)
  | test i hh rr =>
    simp only [step] at h
    cases hx : y.cells[i]? with
    | none => rw [hx] at h; cases h; exact G
    | some x =>
      rw [hx] at h
      simp only at h
      by_cases hl : x.pack ≠ 0 ∨ x.scrap = true
      · rw [if_pos hl] at h; cases h; exact G
      · rw [if_neg hl] at h
        by_cases hb : okCell hh rr = false
        · rw [if_pos hb] at h; cases h; exact G
        · rw [if_neg hb] at h; cases h
          have h0 : x.pack = 0 := Classical.byContradiction fun e => hl (.inl e)
          exact G.setLoose hx h0 h0 (bt hb)
  | scrap i =>
    simp only [step] at h
    cases hx : y.cells[i]? with
    | none => rw [hx] at h; cases h; exact G
    | some x =>
      rw [hx] at h
      simp only at h
      by_cases hl : x.pack ≠ 0 ∨ x.scrap = true
      · rw [if_pos hl] at h; cases h; exact G
      · rw [if_neg hl] at h; cases h
        have h0 : x.pack = 0 := Classical.byContradiction fun e => hl (.inl e)
        exact G.setLoose hx h0 h0 (G.ok i x hx)
  | build r g =>
    simp only [step] at h
    by_cases hb : okSize r g = false
    · rw [if_pos hb] at h; cases h; exact G
    · rw [if_neg hb] at h
      obtain ⟨r0, r4, g0, g4, _⟩ := okSize_is' (bt hb)
      cases hm : match_ y r g with
      | none => rw [hm] at h; cases h; exact G
      | some p =>
        rw [hm] at h
        cases h
        exact G.build r0 r4 g0 g4 hm
  | exchange i j =>
    simp only [step] at h
    cases hx : y.cells[i]? with
    | none => rw [hx] at h; cases h; exact G
    | some x =>
      cases hz : y.cells[j]? with
      | none => rw [hx, hz] at h; cases h; exact G
      | some z =>
        rw [hx, hz] at h
        simp only at h
        by_cases h0 : x.pack = 0
        · rw [if_pos h0] at h; cases h; exact G
        · rw [if_neg h0] at h
          by_cases hl : isLoose y j = false
          · rw [if_pos hl] at h; cases h; exact G
          · rw [if_neg hl] at h; cases h
            exact G.exchange hx hz h0 (bt hl)
  | retire p =>
    simp only [step] at h
    cases hp : y.packs.getD p none with
    | none => rw [hp] at h; cases h; exact G
    | some x =>
      rw [hp] at h
      cases h
      refine G.retire (p := p) ?_
      rw [List.getD_eq_getElem?_getD] at hp
      cases e : y.packs[p]? with
      | none => rw [e] at hp; cases hp
      | some v => rw [e] at hp; exact congrArg some hp
  | grade i => cases h; exact G
  | grades => cases h; exact G
  | match_ r g => cases h; exact G
  | could r g n => cases h; exact G
  | pack p => cases h; exact G
  | strength p => cases h; exact G
  | weak p => cases h; exact G
  | lacks p => cases h; exact G
  | better p => cases h; exact G
  | resists p => cases h; exact G
  | near => cases h; exact G
  | loose => cases h; exact G
  | look i => cases h; exact G
  | state => cases h; exact G
theorem good_start {l : List Nat} {y' : Shop} (h : (step none (.start l)).1 = some y') : Good y' := by
  simp only [step] at h
  by_cases hb : okBounds l = false
  · rw [if_pos hb] at h; cases h
  · rw [if_neg hb] at h
    cases h
    have hb := bt hb
    unfold okBounds at hb
    simp only [Bool.and_eq_true, decide_eq_true_eq] at hb
    exact ⟨hb.1.1, by simp, by simp, by simp, by simp, by simp, by simp, by simp, by simp, by simp⟩
end CP
end

section
set_option linter.all false
namespace CP
open PyFlat
/-- the number of a call, what it is handed -/
def numOf (c : List (List Int)) : Int := (c.headD []).headD 0
def argOf (c : List (List Int)) : List Int := match c with
  | [_, r] => r
  | [h] => h.drop 1
  | _ => []
/-- how many numbers a call takes that has no row -/
def handedOf (p : Int) : Option Nat := match PyKqb4.shape p with
  | some (k, 0) => some k
  | _ => none
inductive CallForm : List (List Int) → Prop
  | start (r : List Int) : CallForm [[0], r]
  | plain (p : Int) (a : List Int) : p ≠ 0 → handedOf p = some a.length → CallForm [p :: a]
theorem shape_zero {p : Int} {n k : Nat} (h : PyKqb4.shape p = some (n, k)) : (p = 0 ∧ n = 0 ∧ k = 1) ∨ (p ≠ 0 ∧ k = 0) := by
  unfold PyKqb4.shape at h
  by_cases h0 : p = 0
  · rw [if_pos h0] at h
    cases h
    exact .inl ⟨h0, rfl, rfl⟩
  · rw [if_neg h0] at h
    refine .inr ⟨h0, ?_⟩
    by_cases h1 : p = 1
    · rw [if_pos h1] at h; cases h; rfl
    rw [if_neg h1] at h
    by_cases h1 : p = 2
    · rw [if_pos h1] at h; cases h; rfl
    rw [if_neg h1] at h
    by_cases h1 : p = 3
    · rw [if_pos h1] at h; cases h; rfl
    rw [if_neg h1] at h
    by_cases h1 : p = 4
    · rw [if_pos h1] at h; cases h; rfl
    rw [if_neg h1] at h
    by_cases h1 : p = 5
    · rw [if_pos h1] at h; cases h; rfl
    rw [if_neg h1] at h
    by_cases h1 : p = 6
    · rw [if_pos h1] at h; cases h; rfl
    rw [if_neg h1] at h
    by_cases h1 : p = 7
    · rw [if_pos h1] at h; cases h; rfl
    rw [if_neg h1] at h
    by_cases h1 : p = 8
    · rw [if_pos h1] at h; cases h; rfl
    rw [if_neg h1] at h
    by_cases h1 : p = 9
    · rw [if_pos h1] at h; cases h; rfl
    rw [if_neg h1] at h
    by_cases h1 : p = 10
    · rw [if_pos h1] at h; cases h; rfl
    rw [if_neg h1] at h
    by_cases h1 : p = 11
    · rw [if_pos h1] at h; cases h; rfl
    rw [if_neg h1] at h
    by_cases h1 : p = 12
    · rw [if_pos h1] at h; cases h; rfl
    rw [if_neg h1] at h
    by_cases h1 : p = 13
    · rw [if_pos h1] at h; cases h; rfl
    rw [if_neg h1] at h
    by_cases h1 : p = 14
    · rw [if_pos h1] at h; cases h; rfl
    rw [if_neg h1] at h
    by_cases h1 : p = 15
    · rw [if_pos h1] at h; cases h; rfl
    rw [if_neg h1] at h
    by_cases h1 : p = 16
    · rw [if_pos h1] at h; cases h; rfl
    rw [if_neg h1] at h
    by_cases h1 : p = 17
    · rw [if_pos h1] at h; cases h; rfl
    rw [if_neg h1] at h
    by_cases h1 : p = 18
    · rw [if_pos h1] at h; cases h; rfl
    rw [if_neg h1] at h
    by_cases h1 : p = 19
    · rw [if_pos h1] at h; cases h; rfl
    rw [if_neg h1] at h
    by_cases h1 : p = 20
    · rw [if_pos h1] at h; cases h; rfl
    rw [if_neg h1] at h
    cases h
theorem form_of {c : List (List Int)} (h : okCall PyKqb4.shape c) : CallForm c := by
  obtain ⟨p, a, xs, rfl, hs⟩ := h
  rcases shape_zero hs with ⟨rfl, h1, h2⟩ | ⟨h0, h1⟩
  · have ea : a = [] := List.length_eq_zero_iff.mp h1
    subst ea
    match xs, h2 with
    | [r], _ => exact .start r
  · have ex : xs = [] := List.length_eq_zero_iff.mp h1
    subst ex
    refine .plain p a h0 ?_
    unfold handedOf
    rw [hs]
    rfl
theorem put1_start (r : List Int) : put1 [[0], r] = 0 :: (r.length : Int) :: r := by simp [put1, putRows, putRow]
theorem put1_plain (p : Int) (a : List Int) : put1 [p :: a] = p :: a := by simp [put1, putRows]
theorem put1_ne {c : List (List Int)} (h : CallForm c) : put1 c ≠ [] := by
  cases h with
  | start r => rw [put1_start]; simp
  | plain p a _ _ => rw [put1_plain]; simp
end CP
end

section
set_option linter.all false
set_option maxRecDepth 10000
namespace CP
open PyFlat Kqb4Neutral
/-! The document's calls, read off the flat list; a line of calls played, part by part. -/
theorem callOf_plain {p : Int} {a : List Int} (h0 : p ≠ 0) (h : handedOf p = some a.length) : ∃ x, callOf [p :: a] = some x ∧ PyKqb4.whole [p :: a] = [p :: a] ∧ ∀ l, x ≠ .start l := by
  by_cases h1 : p = 1
  · subst h1
    have hl : 2 = a.length := by
      unfold handedOf at h
      exact Option.some.inj h
    match a, hl with
    | [a, b], _ => exact ⟨_, rfl, rfl, fun l e => by cases e⟩
  by_cases h1 : p = 2
  · subst h1
    have hl : 3 = a.length := by
      unfold handedOf at h
      exact Option.some.inj h
    match a, hl with
    | [a, b, c], _ => exact ⟨_, rfl, rfl, fun l e => by cases e⟩
  by_cases h1 : p = 3
  · subst h1
    have hl : 1 = a.length := by
      unfold handedOf at h
      exact Option.some.inj h
    match a, hl with
    | [a], _ => exact ⟨_, rfl, rfl, fun l e => by cases e⟩
  by_cases h1 : p = 4
  · subst h1
    have hl : 1 = a.length := by
      unfold handedOf at h
      exact Option.some.inj h
    match a, hl with
    | [a], _ => exact ⟨_, rfl, rfl, fun l e => by cases e⟩
  by_cases h1 : p = 5
  · subst h1
    have hl : 0 = a.length := by
      unfold handedOf at h
      exact Option.some.inj h
    match a, hl with
    | [], _ => exact ⟨_, rfl, rfl, fun l e => by cases e⟩
  by_cases h1 : p = 6
  · subst h1
    have hl : 2 = a.length := by
      unfold handedOf at h
      exact Option.some.inj h
    match a, hl with
    | [a, b], _ => exact ⟨_, rfl, rfl, fun l e => by cases e⟩
  by_cases h1 : p = 7
  · subst h1
    have hl : 2 = a.length := by
      unfold handedOf at h
      exact Option.some.inj h
    match a, hl with
    | [a, b], _ => exact ⟨_, rfl, rfl, fun l e => by cases e⟩
  by_cases h1 : p = 8
  · subst h1
    have hl : 3 = a.length := by
      unfold handedOf at h
      exact Option.some.inj h
    match a, hl with
    | [a, b, c], _ => exact ⟨_, rfl, rfl, fun l e => by cases e⟩
  by_cases h1 : p = 9
  · subst h1
    have hl : 1 = a.length := by
      unfold handedOf at h
      exact Option.some.inj h
    match a, hl with
    | [a], _ => exact ⟨_, rfl, rfl, fun l e => by cases e⟩
  by_cases h1 : p = 10
  · subst h1
    have hl : 1 = a.length := by
      unfold handedOf at h
      exact Option.some.inj h
    match a, hl with
    | [a], _ => exact ⟨_, rfl, rfl, fun l e => by cases e⟩
  by_cases h1 : p = 11
  · subst h1
    have hl : 1 = a.length := by
      unfold handedOf at h
      exact Option.some.inj h
    match a, hl with
    | [a], _ => exact ⟨_, rfl, rfl, fun l e => by cases e⟩
  by_cases h1 : p = 12
  · subst h1
    have hl : 1 = a.length := by
      unfold handedOf at h
      exact Option.some.inj h
    match a, hl with
    | [a], _ => exact ⟨_, rfl, rfl, fun l e => by cases e⟩
  by_cases h1 : p = 13
  · subst h1
    have hl : 1 = a.length := by
      unfold handedOf at h
      exact Option.some.inj h
    match a, hl with
    | [a], _ => exact ⟨_, rfl, rfl, fun l e => by cases e⟩
  by_cases h1 : p = 14
  · subst h1
    have hl : 2 = a.length := by
      unfold handedOf at h
      exact Option.some.inj h
    match a, hl with
    | [a, b], _ => exact ⟨_, rfl, rfl, fun l e => by cases e⟩
  by_cases h1 : p = 15
  · subst h1
    have hl : 1 = a.length := by
      unfold handedOf at h
      exact Option.some.inj h
    match a, hl with
    | [a], _ => exact ⟨_, rfl, rfl, fun l e => by cases e⟩
  by_cases h1 : p = 16
  · subst h1
    have hl : 0 = a.length := by
      unfold handedOf at h
      exact Option.some.inj h
    match a, hl with
    | [], _ => exact ⟨_, rfl, rfl, fun l e => by cases e⟩
  by_cases h1 : p = 17
  · subst h1
    have hl : 0 = a.length := by
      unfold handedOf at h
      exact Option.some.inj h
    match a, hl with
    | [], _ => exact ⟨_, rfl, rfl, fun l e => by cases e⟩
  by_cases h1 : p = 18
  · subst h1
    have hl : 1 = a.length := by
      unfold handedOf at h
      exact Option.some.inj h
    match a, hl with
    | [a], _ => exact ⟨_, rfl, rfl, fun l e => by cases e⟩
  by_cases h1 : p = 19
  · subst h1
    have hl : 1 = a.length := by
      unfold handedOf at h
      exact Option.some.inj h
    match a, hl with
    | [a], _ => exact ⟨_, rfl, rfl, fun l e => by cases e⟩
  by_cases h1 : p = 20
  · subst h1
    have hl : 0 = a.length := by
      unfold handedOf at h
      exact Option.some.inj h
    match a, hl with
    | [], _ => exact ⟨_, rfl, rfl, fun l e => by cases e⟩
  exfalso
  unfold handedOf PyKqb4.shape at h
  rw [if_neg h0] at h
  rw [if_neg (by assumption)] at h
  rw [if_neg (by assumption)] at h
  rw [if_neg (by assumption)] at h
  rw [if_neg (by assumption)] at h
  rw [if_neg (by assumption)] at h
  rw [if_neg (by assumption)] at h
  rw [if_neg (by assumption)] at h
  rw [if_neg (by assumption)] at h
  rw [if_neg (by assumption)] at h
  rw [if_neg (by assumption)] at h
  rw [if_neg (by assumption)] at h
  rw [if_neg (by assumption)] at h
  rw [if_neg (by assumption)] at h
  rw [if_neg (by assumption)] at h
  rw [if_neg (by assumption)] at h
  rw [if_neg (by assumption)] at h
  rw [if_neg (by assumption)] at h
  rw [if_neg (by assumption)] at h
  rw [if_neg (by assumption)] at h
  rw [if_neg (by assumption)] at h
  cases h
theorem whole_form {c : List (List Int)} (h : CallForm c) : PyKqb4.whole c = c := by
  cases h with
  | start r => rfl
  | plain p a h0 h1 => exact (callOf_plain h0 h1).choose_spec.2.1
theorem whole_all {raw : List (List (List Int))} (h : ∀ c ∈ raw, CallForm c) : raw.map PyKqb4.whole = raw := by
  induction raw with
  | nil => rfl
  | cons c raw ih => rw [List.map_cons, whole_form (h c (by simp)), ih fun d hd => h d (by simp [hd])]
/-- the state behind the first calls -/
def after (s : S) (cs : List Call_) : S := cs.foldl (fun s c => (step s c).1) s
theorem after_snoc {cs : List Call_} {j : Nat} {c : Call_} (h : cs[j]? = some c) (s : S) : after s (cs.take (j + 1)) = (step (after s (cs.take j)) c).1 := by
  unfold after
  rw [List.take_succ, h]
  simp
theorem played_app : ∀ (cs ds : List Call_) (s : S), played step s (cs ++ ds) = played step s cs ++ played step (after s cs) ds
  | [], ds, s => rfl
  | c :: cs, ds, s => by
    show (step s c).2 :: played step (step s c).1 (cs ++ ds) = _
    rw [played_app cs ds]
    rfl
theorem played_snoc {cs : List Call_} {j : Nat} {c : Call_} (h : cs[j]? = some c) (s : S) : played step s (cs.take (j + 1)) = played step s (cs.take j) ++ [(step (after s (cs.take j)) c).2] := by
  have e : cs.take (j + 1) = cs.take j ++ [c] := by rw [List.take_succ, h]; rfl
  rw [e, played_app]
  rfl
theorem told_app (a b : List (List Int)) : told (a ++ b) = told a ++ told b := by simp [told]
theorem told_snoc {cs : List Call_} {j : Nat} {c : Call_} (h : cs[j]? = some c) (s : S) : told (played step s (cs.take (j + 1))) = told (played step s (cs.take j)) ++ (((step (after s (cs.take j)) c).2.length : Int) :: (step (after s (cs.take j)) c).2) := by
  rw [played_snoc h, told_app]
  simp [told]
theorem told_le (cs : List Call_) (s : S) (j : Nat) : (told (played step s (cs.take j))).length ≤ (told (played step s cs)).length := by
  have e : told (played step s cs) = told (played step s (cs.take j)) ++ told (played step (after s (cs.take j)) (cs.drop j)) := by
    rw [← told_app, ← played_app, List.take_append_drop]
  rw [e, List.length_append]
  omega
theorem small_at : ∀ {cs : List Call_} {s : S} {j : Nat} {c : Call_}, small s cs = true → cs[j]? = some c → few (after s (cs.take j)) c = true
  | [], _, _, _, _, h => by simp at h
  | d :: cs, s, 0, c, hs, h => by
    have e : d = c := Option.some.inj h
    subst e
    exact (Bool.and_eq_true_iff.mp hs).1
  | d :: cs, s, j + 1, c, hs, h => by
    have := small_at (cs := cs) (s := (step s d).1) (j := j) (c := c) (Bool.and_eq_true_iff.mp hs).2 (by simpa using h)
    exact this
theorem plain_nostart {p : Int} {a : List Int} {cc : Kqb4.Call} (h0 : p ≠ 0) (h : handedOf p = some a.length) (hc : callOf [p :: a] = some cc) : ∀ l, cc ≠ .start l := by
  obtain ⟨x, hx, _, hs⟩ := callOf_plain h0 h
  rw [hx] at hc
  cases hc
  exact hs
theorem handed_le {p : Int} {a : List Int} (h0 : p ≠ 0) (h : handedOf p = some a.length) : a.length ≤ 3 := by
  have hc : True := trivial
  by_cases h1 : p = 1
  · subst h1
    have hl : 2 = a.length := by
      unfold handedOf at h
      exact Option.some.inj h
    match a, hl, hc with
    | [x, y], _, hc => simp
  by_cases h1 : p = 2
  · subst h1
    have hl : 3 = a.length := by
      unfold handedOf at h
      exact Option.some.inj h
    match a, hl, hc with
    | [x, y, z], _, hc => simp
  by_cases h1 : p = 3
  · subst h1
    have hl : 1 = a.length := by
      unfold handedOf at h
      exact Option.some.inj h
    match a, hl, hc with
    | [x], _, hc => simp
  by_cases h1 : p = 4
  · subst h1
    have hl : 1 = a.length := by
      unfold handedOf at h
      exact Option.some.inj h
    match a, hl, hc with
    | [x], _, hc => simp
  by_cases h1 : p = 5
  · subst h1
    have hl : 0 = a.length := by
      unfold handedOf at h
      exact Option.some.inj h
    match a, hl, hc with
    | [], _, hc => simp
  by_cases h1 : p = 6
  · subst h1
    have hl : 2 = a.length := by
      unfold handedOf at h
      exact Option.some.inj h
    match a, hl, hc with
    | [x, y], _, hc => simp
  by_cases h1 : p = 7
  · subst h1
    have hl : 2 = a.length := by
      unfold handedOf at h
      exact Option.some.inj h
    match a, hl, hc with
    | [x, y], _, hc => simp
  by_cases h1 : p = 8
  · subst h1
    have hl : 3 = a.length := by
      unfold handedOf at h
      exact Option.some.inj h
    match a, hl, hc with
    | [x, y, z], _, hc => simp
  by_cases h1 : p = 9
  · subst h1
    have hl : 1 = a.length := by
      unfold handedOf at h
      exact Option.some.inj h
    match a, hl, hc with
    | [x], _, hc => simp
  by_cases h1 : p = 10
  · subst h1
    have hl : 1 = a.length := by
      unfold handedOf at h
      exact Option.some.inj h
    match a, hl, hc with
    | [x], _, hc => simp
  by_cases h1 : p = 11
  · subst h1
    have hl : 1 = a.length := by
      unfold handedOf at h
      exact Option.some.inj h
    match a, hl, hc with
    | [x], _, hc => simp
  by_cases h1 : p = 12
  · subst h1
    have hl : 1 = a.length := by
      unfold handedOf at h
      exact Option.some.inj h
    match a, hl, hc with
    | [x], _, hc => simp
  by_cases h1 : p = 13
  · subst h1
    have hl : 1 = a.length := by
      unfold handedOf at h
      exact Option.some.inj h
    match a, hl, hc with
    | [x], _, hc => simp
  by_cases h1 : p = 14
  · subst h1
    have hl : 2 = a.length := by
      unfold handedOf at h
      exact Option.some.inj h
    match a, hl, hc with
    | [x, y], _, hc => simp
  by_cases h1 : p = 15
  · subst h1
    have hl : 1 = a.length := by
      unfold handedOf at h
      exact Option.some.inj h
    match a, hl, hc with
    | [x], _, hc => simp
  by_cases h1 : p = 16
  · subst h1
    have hl : 0 = a.length := by
      unfold handedOf at h
      exact Option.some.inj h
    match a, hl, hc with
    | [], _, hc => simp
  by_cases h1 : p = 17
  · subst h1
    have hl : 0 = a.length := by
      unfold handedOf at h
      exact Option.some.inj h
    match a, hl, hc with
    | [], _, hc => simp
  by_cases h1 : p = 18
  · subst h1
    have hl : 1 = a.length := by
      unfold handedOf at h
      exact Option.some.inj h
    match a, hl, hc with
    | [x], _, hc => simp
  by_cases h1 : p = 19
  · subst h1
    have hl : 1 = a.length := by
      unfold handedOf at h
      exact Option.some.inj h
    match a, hl, hc with
    | [x], _, hc => simp
  by_cases h1 : p = 20
  · subst h1
    have hl : 0 = a.length := by
      unfold handedOf at h
      exact Option.some.inj h
    match a, hl, hc with
    | [], _, hc => simp
  exfalso
  unfold handedOf PyKqb4.shape at h
  rw [if_neg h0] at h
  rw [if_neg (by assumption)] at h
  rw [if_neg (by assumption)] at h
  rw [if_neg (by assumption)] at h
  rw [if_neg (by assumption)] at h
  rw [if_neg (by assumption)] at h
  rw [if_neg (by assumption)] at h
  rw [if_neg (by assumption)] at h
  rw [if_neg (by assumption)] at h
  rw [if_neg (by assumption)] at h
  rw [if_neg (by assumption)] at h
  rw [if_neg (by assumption)] at h
  rw [if_neg (by assumption)] at h
  rw [if_neg (by assumption)] at h
  rw [if_neg (by assumption)] at h
  rw [if_neg (by assumption)] at h
  rw [if_neg (by assumption)] at h
  rw [if_neg (by assumption)] at h
  rw [if_neg (by assumption)] at h
  rw [if_neg (by assumption)] at h
  rw [if_neg (by assumption)] at h
  cases h
/-- few loose ones where a dealing is asked -/
def fewS (y : Kqb4.Shop) : Kqb4.Call → Prop
  | .match_ _ _ => (Kqb4.loose y).length ≤ 8
  | .build _ _ => (Kqb4.loose y).length ≤ 8
  | .could _ _ _ => (Kqb4.loose y).length ≤ 8
  | _ => True
theorem few_S {p : Int} {a : List Int} {cc : Kqb4.Call} {s0 : Kqb4.Shop} (h0 : p ≠ 0) (h : handedOf p = some a.length) (hc : callOf [p :: a] = some cc) (hf : few (some s0) [p :: a] = true) : fewS s0 cc := by
  by_cases h1 : p = 1
  · subst h1
    have hl : 2 = a.length := by
      unfold handedOf at h
      exact Option.some.inj h
    match a, hl, hc, hf with
    | [x, y], _, hc, hf => cases hc; exact trivial
  by_cases h1 : p = 2
  · subst h1
    have hl : 3 = a.length := by
      unfold handedOf at h
      exact Option.some.inj h
    match a, hl, hc, hf with
    | [x, y, z], _, hc, hf => cases hc; exact trivial
  by_cases h1 : p = 3
  · subst h1
    have hl : 1 = a.length := by
      unfold handedOf at h
      exact Option.some.inj h
    match a, hl, hc, hf with
    | [x], _, hc, hf => cases hc; exact trivial
  by_cases h1 : p = 4
  · subst h1
    have hl : 1 = a.length := by
      unfold handedOf at h
      exact Option.some.inj h
    match a, hl, hc, hf with
    | [x], _, hc, hf => cases hc; exact trivial
  by_cases h1 : p = 5
  · subst h1
    have hl : 0 = a.length := by
      unfold handedOf at h
      exact Option.some.inj h
    match a, hl, hc, hf with
    | [], _, hc, hf => cases hc; exact trivial
  by_cases h1 : p = 6
  · subst h1
    have hl : 2 = a.length := by
      unfold handedOf at h
      exact Option.some.inj h
    match a, hl, hc, hf with
    | [x, y], _, hc, hf => cases hc; (have hf : decide ((Kqb4.loose s0).length ≤ 8) = true := hf); exact (of_decide_eq_true hf : (Kqb4.loose s0).length ≤ 8)
  by_cases h1 : p = 7
  · subst h1
    have hl : 2 = a.length := by
      unfold handedOf at h
      exact Option.some.inj h
    match a, hl, hc, hf with
    | [x, y], _, hc, hf => cases hc; (have hf : decide ((Kqb4.loose s0).length ≤ 8) = true := hf); exact (of_decide_eq_true hf : (Kqb4.loose s0).length ≤ 8)
  by_cases h1 : p = 8
  · subst h1
    have hl : 3 = a.length := by
      unfold handedOf at h
      exact Option.some.inj h
    match a, hl, hc, hf with
    | [x, y, z], _, hc, hf => cases hc; (have hf : decide ((Kqb4.loose s0).length ≤ 8) = true := hf); exact (of_decide_eq_true hf : (Kqb4.loose s0).length ≤ 8)
  by_cases h1 : p = 9
  · subst h1
    have hl : 1 = a.length := by
      unfold handedOf at h
      exact Option.some.inj h
    match a, hl, hc, hf with
    | [x], _, hc, hf => cases hc; exact trivial
  by_cases h1 : p = 10
  · subst h1
    have hl : 1 = a.length := by
      unfold handedOf at h
      exact Option.some.inj h
    match a, hl, hc, hf with
    | [x], _, hc, hf => cases hc; exact trivial
  by_cases h1 : p = 11
  · subst h1
    have hl : 1 = a.length := by
      unfold handedOf at h
      exact Option.some.inj h
    match a, hl, hc, hf with
    | [x], _, hc, hf => cases hc; exact trivial
  by_cases h1 : p = 12
  · subst h1
    have hl : 1 = a.length := by
      unfold handedOf at h
      exact Option.some.inj h
    match a, hl, hc, hf with
    | [x], _, hc, hf => cases hc; exact trivial
  by_cases h1 : p = 13
  · subst h1
    have hl : 1 = a.length := by
      unfold handedOf at h
      exact Option.some.inj h
    match a, hl, hc, hf with
    | [x], _, hc, hf => cases hc; exact trivial
  by_cases h1 : p = 14
  · subst h1
    have hl : 2 = a.length := by
      unfold handedOf at h
      exact Option.some.inj h
    match a, hl, hc, hf with
    | [x, y], _, hc, hf => cases hc; exact trivial
  by_cases h1 : p = 15
  · subst h1
    have hl : 1 = a.length := by
      unfold handedOf at h
      exact Option.some.inj h
    match a, hl, hc, hf with
    | [x], _, hc, hf => cases hc; exact trivial
  by_cases h1 : p = 16
  · subst h1
    have hl : 0 = a.length := by
      unfold handedOf at h
      exact Option.some.inj h
    match a, hl, hc, hf with
    | [], _, hc, hf => cases hc; exact trivial
  by_cases h1 : p = 17
  · subst h1
    have hl : 0 = a.length := by
      unfold handedOf at h
      exact Option.some.inj h
    match a, hl, hc, hf with
    | [], _, hc, hf => cases hc; exact trivial
  by_cases h1 : p = 18
  · subst h1
    have hl : 1 = a.length := by
      unfold handedOf at h
      exact Option.some.inj h
    match a, hl, hc, hf with
    | [x], _, hc, hf => cases hc; exact trivial
  by_cases h1 : p = 19
  · subst h1
    have hl : 1 = a.length := by
      unfold handedOf at h
      exact Option.some.inj h
    match a, hl, hc, hf with
    | [x], _, hc, hf => cases hc; exact trivial
  by_cases h1 : p = 20
  · subst h1
    have hl : 0 = a.length := by
      unfold handedOf at h
      exact Option.some.inj h
    match a, hl, hc, hf with
    | [], _, hc, hf => cases hc; exact trivial
  exfalso
  unfold handedOf PyKqb4.shape at h
  rw [if_neg h0] at h
  rw [if_neg (by assumption)] at h
  rw [if_neg (by assumption)] at h
  rw [if_neg (by assumption)] at h
  rw [if_neg (by assumption)] at h
  rw [if_neg (by assumption)] at h
  rw [if_neg (by assumption)] at h
  rw [if_neg (by assumption)] at h
  rw [if_neg (by assumption)] at h
  rw [if_neg (by assumption)] at h
  rw [if_neg (by assumption)] at h
  rw [if_neg (by assumption)] at h
  rw [if_neg (by assumption)] at h
  rw [if_neg (by assumption)] at h
  rw [if_neg (by assumption)] at h
  rw [if_neg (by assumption)] at h
  rw [if_neg (by assumption)] at h
  rw [if_neg (by assumption)] at h
  rw [if_neg (by assumption)] at h
  rw [if_neg (by assumption)] at h
  rw [if_neg (by assumption)] at h
  cases h
end CP
end

section
set_option linter.all false
namespace CP
open Kqb4
/-! Fractions: told by their worth alone; the first of the best. -/
theorem frac_pos {n d : Nat} (hd : 0 < d) : frac n d = ⟨n / Nat.gcd n d, d / Nat.gcd n d⟩ := by
  unfold frac
  have : Nat.gcd n d ≠ 0 := Nat.ne_of_gt (Nat.gcd_pos_of_pos_right _ hd)
  simp only [this, if_false]
theorem frac_den {n d : Nat} (hd : 0 < d) : 0 < (frac n d).den := by
  rw [frac_pos hd]
  exact Nat.div_pos (Nat.le_of_dvd hd (Nat.gcd_dvd_right n d)) (Nat.gcd_pos_of_pos_right _ hd)
theorem frac_mul {n d k : Nat} (hd : 0 < d) (hk : 0 < k) : frac (n * k) (d * k) = frac n d := by
  rw [frac_pos hd, frac_pos (Nat.mul_pos hd hk), Nat.gcd_mul_right]
  have hg : 0 < Nat.gcd n d := Nat.gcd_pos_of_pos_right _ hd
  rw [Nat.mul_div_mul_right _ _ hk, Nat.mul_div_mul_right _ _ hk]
/-- two fractions of one worth are one -/
theorem frac_eq {n d n' d' : Nat} (hd : 0 < d) (hd' : 0 < d') (h : n * d' = n' * d) : frac n d = frac n' d' := by
  rw [← frac_mul (n := n) hd hd', h, Nat.mul_comm d d', frac_mul hd' hd]
theorem frac_worth {n d : Nat} (hd : 0 < d) : (frac n d).num * d = n * (frac n d).den := by
  rw [frac_pos hd]
  obtain ⟨a, ha⟩ := Nat.gcd_dvd_left n d
  obtain ⟨b, hb⟩ := Nat.gcd_dvd_right n d
  have hg : 0 < Nat.gcd n d := Nat.gcd_pos_of_pos_right _ hd
  generalize Nat.gcd n d = g at ha hb hg
  subst ha hb
  show g * a / g * (g * b) = g * a * (g * b / g)
  rw [Nat.mul_div_cancel_left _ hg, Nat.mul_div_cancel_left _ hg, ← Nat.mul_assoc, Nat.mul_comm a g]
theorem frac_self {n d : Nat} (hd : 0 < d) : frac (frac n d).num (frac n d).den = frac n d := frac_eq (frac_den hd) hd (frac_worth hd)
/-- added as they are, without dividing -/
def addU (a b : Nat × Nat) : Nat × Nat := (a.1 * b.2 + b.1 * a.2, a.2 * b.2)
def sumU (l : List (Nat × Nat)) : Nat × Nat := l.foldr addU (0, 1)
theorem add_frac {a b c d : Nat} (hb : 0 < b) (hd : 0 < d) : add (frac a b) (frac c d) = frac (a * d + c * b) (b * d) := by
  unfold add
  refine frac_eq (Nat.mul_pos (frac_den hb) (frac_den hd)) (Nat.mul_pos hb hd) ?_
  have e1 := frac_worth (n := a) hb
  have e2 := frac_worth (n := c) hd
  generalize (frac a b).num = p at e1 ⊢
  generalize (frac a b).den = q at e1 ⊢
  generalize (frac c d).num = u at e2 ⊢
  generalize (frac c d).den = v at e2 ⊢
  -- p * b = a * q, u * d = c * v
  calc (p * v + u * q) * (b * d) = (p * b) * (v * d) + (u * d) * (q * b) := by
        rw [Nat.add_mul]
        congr 1 <;> ac_rfl
    _ = (a * q) * (v * d) + (c * v) * (q * b) := by rw [e1, e2]
    _ = (a * d + c * b) * (q * v) := by
        rw [Nat.add_mul]
        congr 1 <;> ac_rfl
theorem sumU_den : ∀ {l : List (Nat × Nat)}, (∀ x ∈ l, 0 < x.2) → 0 < (sumU l).2
  | [], _ => Nat.one_pos
  | x :: l, h => Nat.mul_pos (h x (by simp)) (sumU_den fun y hy => h y (by simp [hy]))
theorem frac_zero : frac 0 1 = ⟨0, 1⟩ := rfl
theorem fold_add : ∀ {l : List (Nat × Nat)}, (∀ x ∈ l, 0 < x.2) → (l.map fun x => frac x.1 x.2).foldr add ⟨0, 1⟩ = frac (sumU l).1 (sumU l).2
  | [], _ => rfl
  | x :: l, h => by
    rw [List.map_cons, List.foldr_cons, fold_add fun y hy => h y (by simp [hy]), add_frac (h x (by simp)) (sumU_den fun y hy => h y (by simp [hy]))]
    rfl
theorem sumU_num : ∀ {l : List (Nat × Nat)}, l ≠ [] → (∀ x ∈ l, 0 < x.1 ∧ 0 < x.2) → 0 < (sumU l).1
  | [], h, _ => absurd rfl h
  | x :: l, _, h => by
    have h1 := h x (by simp)
    have h2 := sumU_den (l := l) fun y hy => (h y (by simp [hy])).2
    show 0 < x.1 * (sumU l).2 + (sumU l).1 * x.2
    have := Nat.mul_pos h1.1 h2
    omega
/-- a group's ones over theirs, together; then turned -/
def groupU (y : Shop) (l : List Nat) : Nat × Nat := let s := sumU (l.map fun i => (1, resists y i)); (s.2, s.1)
theorem group_frac {y : Shop} {l : List Nat} (hl : l ≠ []) (h : ∀ i ∈ l, 0 < resists y i) : groupResists y l = frac (groupU y l).1 (groupU y l).2 ∧ 0 < (groupU y l).1 ∧ 0 < (groupU y l).2 := by
  have hp : ∀ x ∈ l.map (fun i => (1, resists y i)), 0 < x.1 ∧ 0 < x.2 := fun x hx => by
    obtain ⟨i, hi, rfl⟩ := List.mem_map.mp hx
    exact ⟨Nat.one_pos, h i hi⟩
  have hd := sumU_den fun x hx => (hp x hx).2
  have hn := sumU_num (l := l.map fun i => (1, resists y i)) (by simpa using hl) hp
  have e : (l.map fun i => frac 1 (resists y i)) = (l.map fun i => (1, resists y i)).map fun x => frac x.1 x.2 := by rw [List.map_map]; rfl
  refine ⟨?_, hd, hn⟩
  unfold groupResists
  rw [e, fold_add fun x hx => (hp x hx).2]
  have hw := frac_worth (n := (sumU (l.map fun i => (1, resists y i))).1) hd
  have hnum : 0 < (frac (sumU (l.map fun i => (1, resists y i))).1 (sumU (l.map fun i => (1, resists y i))).2).num := by
    refine Nat.pos_of_ne_zero fun e0 => ?_
    rw [e0, Nat.zero_mul] at hw
    have := Nat.mul_pos hn (frac_den (n := (sumU (l.map fun i => (1, resists y i))).1) hd)
    omega
  refine frac_eq hnum hn ?_
  show _ * (sumU _).1 = (sumU _).2 * _
  rw [Nat.mul_comm, Nat.mul_comm (sumU _).2]
  exact hw.symm
def packU (y : Shop) (p : List (List Nat)) : Nat × Nat := sumU (p.map (groupU y))
theorem pack_frac {y : Shop} {p : List (List Nat)} (hp : ∀ l ∈ p, l ≠ []) (h : ∀ i ∈ p.flatten, 0 < resists y i) : packResists y p = frac (packU y p).1 (packU y p).2 ∧ 0 < (packU y p).2 := by
  have hg : ∀ l ∈ p, groupResists y l = frac (groupU y l).1 (groupU y l).2 ∧ 0 < (groupU y l).1 ∧ 0 < (groupU y l).2 := fun l hl => group_frac (hp l hl) fun i hi => h i (List.mem_flatten.mpr ⟨l, hl, hi⟩)
  have hd : ∀ x ∈ p.map (groupU y), 0 < x.2 := fun x hx => by
    obtain ⟨l, hl, rfl⟩ := List.mem_map.mp hx
    exact (hg l hl).2.2
  refine ⟨?_, sumU_den hd⟩
  unfold packResists packU
  have e : p.map (groupResists y) = (p.map (groupU y)).map fun x => frac x.1 x.2 := by
    rw [List.map_map]
    exact List.map_congr_left fun l hl => (hg l hl).1
  rw [e, fold_add hd]
/-! the first of the greatest above a bound, by one walk -/
def topStep {α : Type} (f : α → Nat) (b : Nat × Option α) (x : α) : Nat × Option α := if b.1 < f x then (f x, some x) else b
theorem top_max {α : Type} (f : α → Nat) : ∀ (l : List α) (b : Nat × Option α), b.1 ≤ (l.foldl (topStep f) b).1 ∧ ∀ y ∈ l, f y ≤ (l.foldl (topStep f) b).1
  | [], b => by simp
  | x :: l, b => by
    obtain ⟨h1, h2⟩ := top_max f l (topStep f b x)
    rw [List.foldl_cons]
    have e : b.1 ≤ (topStep f b x).1 ∧ f x ≤ (topStep f b x).1 := by
      unfold topStep
      by_cases h : b.1 < f x
      · rw [if_pos h]; exact ⟨Nat.le_of_lt h, Nat.le_refl _⟩
      · rw [if_neg h]; exact ⟨Nat.le_refl _, by omega⟩
    refine ⟨Nat.le_trans e.1 h1, fun y hy => ?_⟩
    rcases List.mem_cons.mp hy with rfl | hy
    · exact Nat.le_trans e.2 h1
    · exact h2 y hy
/-- the walk's end: the bound with what was had, or the first that is greatest -/
theorem top_is {α : Type} (f : α → Nat) : ∀ (l : List α) (b : Nat × Option α), (l.foldl (topStep f) b = b ∧ ∀ y ∈ l, f y ≤ b.1) ∨
    ∃ p x r, l = p ++ x :: r ∧ l.foldl (topStep f) b = (f x, some x) ∧ b.1 < f x ∧ (∀ y ∈ p, f y < f x) ∧ ∀ y ∈ r, f y ≤ f x
  | [], b => .inl ⟨rfl, by simp⟩
  | a :: l, b => by
    rw [List.foldl_cons]
    by_cases h : b.1 < f a
    · have e : topStep f b a = (f a, some a) := by unfold topStep; rw [if_pos h]
      rw [e]
      rcases top_is f l (f a, some a) with ⟨h1, h2⟩ | ⟨p, x, r, h1, h2, h3, h4, h5⟩
      · exact .inr ⟨[], a, l, rfl, h1, h, by simp, h2⟩
      · refine .inr ⟨a :: p, x, r, by rw [h1]; rfl, h2, Nat.lt_trans h h3, fun y hy => ?_, h5⟩
        rcases List.mem_cons.mp hy with rfl | hy
        · exact h3
        · exact h4 y hy
    · have e : topStep f b a = b := by unfold topStep; rw [if_neg h]
      rw [e]
      rcases top_is f l b with ⟨h1, h2⟩ | ⟨p, x, r, h1, h2, h3, h4, h5⟩
      · refine .inl ⟨h1, fun y hy => ?_⟩
        rcases List.mem_cons.mp hy with rfl | hy
        · omega
        · exact h2 y hy
      · refine .inr ⟨a :: p, x, r, by rw [h1]; rfl, h2, h3, fun y hy => ?_, h5⟩
        rcases List.mem_cons.mp hy with rfl | hy
        · omega
        · exact h4 y hy
theorem find_at {α : Type} {P : α → Bool} : ∀ {p : List α} {x : α} {r : List α}, (∀ y ∈ p, P y = false) → P x = true → (p ++ x :: r).find? P = some x
  | [], x, r, _, h => by simp [h]
  | a :: p, x, r, hp, h => by
    show (a :: (p ++ x :: r)).find? P = some x
    rw [List.find?_cons_of_neg (by rw [hp a (by simp)]; decide)]
    exact find_at (fun y hy => hp y (by simp [hy])) h
/-- better: the specification's exchange is the walk's -/
theorem best_exchange (y : Shop) (p : List (List Nat)) : bestExchange y p = ((exchanges y p).foldl (topStep fun e => strength y (put p e.1 e.2)) (strength y p, none)).2 := by
  unfold bestExchange
  generalize exchanges y p = E
  generalize hs : strength y p = s0
  have key : ∀ (e : Nat × Nat), ((decide (s0 < strength y (put p e.1 e.2)) && (E.map fun e => (e, strength y (put p e.1 e.2))).all fun z => decide (z.2 ≤ strength y (put p e.1 e.2))) = true ↔ s0 < strength y (put p e.1 e.2) ∧ ∀ z ∈ E, strength y (put p z.1 z.2) ≤ strength y (put p e.1 e.2)) := fun e => by
    simp [List.all_map]
  rcases top_is (fun (e : Nat × Nat) => strength y (put p e.1 e.2)) E (s0, none) with ⟨h1, h2⟩ | ⟨a, x, r, h1, h2, h3, h4, h5⟩
  · rw [h1]
    show Option.map _ (List.find? _ _) = none
    rw [List.find?_eq_none.mpr, Option.map_none]
    intro z hz
    obtain ⟨e, he, rfl⟩ := List.mem_map.mp hz
    intro hc
    have := ((key e).mp hc).1
    have := h2 e he
    simp only at this
    omega
  · rw [h2]
    show Option.map _ (List.find? _ _) = some x
    have hx : x ∈ E := by rw [h1]; simp
    have e1 : E.map (fun e => (e, strength y (put p e.1 e.2))) = a.map (fun e => (e, strength y (put p e.1 e.2))) ++ (x, strength y (put p x.1 x.2)) :: r.map (fun e => (e, strength y (put p e.1 e.2))) := by rw [h1, List.map_append, List.map_cons]
    have e2 : (E.map fun e => (e, strength y (put p e.1 e.2))).find? (fun z => decide (s0 < z.2) && (E.map fun e => (e, strength y (put p e.1 e.2))).all fun w => decide (w.2 ≤ z.2)) = some (x, strength y (put p x.1 x.2)) := by
      conv => lhs; arg 2; rw [e1]
      refine find_at (fun z hz => ?_) ?_
      · obtain ⟨e, he, rfl⟩ := List.mem_map.mp hz
        have hE : e ∈ E := by rw [h1]; simp [he]
        cases q : (decide (s0 < strength y (put p e.1 e.2)) && (E.map fun e => (e, strength y (put p e.1 e.2))).all fun w => decide (w.2 ≤ strength y (put p e.1 e.2))) with
        | false => rfl
        | true =>
          have h7 := ((key e).mp q).2 x hx
          have h6 : strength y (put p e.1 e.2) < strength y (put p x.1 x.2) := h4 e he
          omega
      · refine (key x).mpr ⟨h3, fun z hz => ?_⟩
        rw [h1] at hz
        rcases List.mem_append.mp hz with hz | hz
        · exact Nat.le_of_lt (h4 z hz)
        · rcases List.mem_cons.mp hz with rfl | hz
          · exact Nat.le_refl _
          · exact h5 z hz
    rw [e2]
    rfl
/-! the first of the least, by one walk -/
def lowStep {α : Type} (f : α → Nat) (b : Option α) (x : α) : Option α := match b with
  | none => some x
  | some v => if f x < f v then some x else some v
theorem low_is {α : Type} (f : α → Nat) : ∀ (l : List α) (v : α), ∃ w, l.foldl (lowStep f) (some v) = some w ∧ ((w = v ∧ ∀ y ∈ l, f v ≤ f y) ∨ ∃ p r, l = p ++ w :: r ∧ f w < f v ∧ (∀ y ∈ p, f w < f y) ∧ ∀ y ∈ r, f w ≤ f y)
  | [], v => ⟨v, rfl, .inl ⟨rfl, by simp⟩⟩
  | a :: l, v => by
    rw [List.foldl_cons]
    by_cases h : f a < f v
    · have e : lowStep f (some v) a = some a := by show (if f a < f v then some a else some v) = _; rw [if_pos h]
      rw [e]
      obtain ⟨w, hw, h1⟩ := low_is f l a
      refine ⟨w, hw, .inr ?_⟩
      rcases h1 with ⟨rfl, h2⟩ | ⟨p, r, h2, h3, h4, h5⟩
      · exact ⟨[], l, rfl, h, by simp, h2⟩
      · refine ⟨a :: p, r, by rw [h2]; rfl, by omega, fun y hy => ?_, h5⟩
        rcases List.mem_cons.mp hy with rfl | hy
        · exact h3
        · exact h4 y hy
    · have e : lowStep f (some v) a = some v := by show (if f a < f v then some a else some v) = _; rw [if_neg h]
      rw [e]
      obtain ⟨w, hw, h1⟩ := low_is f l v
      refine ⟨w, hw, ?_⟩
      rcases h1 with ⟨rfl, h2⟩ | ⟨p, r, h2, h3, h4, h5⟩
      · refine .inl ⟨rfl, fun y hy => ?_⟩
        rcases List.mem_cons.mp hy with rfl | hy
        · omega
        · exact h2 y hy
      · refine .inr ⟨a :: p, r, by rw [h2]; rfl, h3, fun y hy => ?_, h5⟩
        rcases List.mem_cons.mp hy with rfl | hy
        · omega
        · exact h4 y hy
theorem find_low {α : Type} (f : α → Nat) (l : List α) : (l.find? fun p => l.all fun q => decide (f p ≤ f q)) = l.foldl (lowStep f) none := by
  cases l with
  | nil => rfl
  | cons a l =>
    rw [List.foldl_cons]
    show _ = l.foldl (lowStep f) (some a)
    obtain ⟨w, hw, h⟩ := low_is f l a
    rw [hw]
    have key : ∀ z, (((a :: l).all fun q => decide (f z ≤ f q)) = true ↔ ∀ q ∈ a :: l, f z ≤ f q) := fun z => by simp
    rcases h with ⟨rfl, h2⟩ | ⟨p, r, h2, h3, h4, h5⟩
    · refine find_at (p := []) (by simp) ((key w).mpr fun q hq => ?_)
      rcases List.mem_cons.mp hq with rfl | hq
      · exact Nat.le_refl _
      · exact h2 q hq
    · have e : a :: l = (a :: p) ++ w :: r := by rw [h2]; rfl
      have hwm : w ∈ a :: l := by rw [e]; simp
      conv => lhs; arg 2; rw [e]
      refine find_at (fun z hz => ?_) ((key w).mpr fun q hq => ?_)
      · cases c : (a :: l).all fun q => decide (f z ≤ f q) with
        | false => rfl
        | true =>
          have h6 := (key z).mp c w hwm
          rcases List.mem_cons.mp hz with rfl | hz
          · omega
          · have := h4 z hz
            omega
      · rw [e] at hq
        rcases List.mem_append.mp hq with hq | hq
        · rcases List.mem_cons.mp hq with rfl | hq
          · omega
          · exact Nat.le_of_lt (h4 q hq)
        · rcases List.mem_cons.mp hq with rfl | hq
          · exact Nat.le_refl _
          · exact h5 q hq
def farOf (y : Shop) (p : Nat × Nat) : Nat := max (holds y p.1) (holds y p.2) - min (holds y p.1) (holds y p.2)
/-- the pairs in their order -/
def pairsOf (l : List Nat) : List (Nat × Nat) := (choose 2 l).map fun l => (l.headD 0, l.getD 1 0)
theorem near_walk (y : Shop) : near y = (pairsOf (loose y)).foldl (lowStep (farOf y)) none := find_low (farOf y) (pairsOf (loose y))
theorem choose_one : ∀ l : List Nat, choose 1 l = l.map fun x => [x]
  | [] => rfl
  | a :: l => by
    show (choose 0 l).map (a :: ·) ++ choose 1 l = _
    rw [choose_one l]
    simp [choose]
theorem pairs_cons (a : Nat) (l : List Nat) : pairsOf (a :: l) = l.map (fun b => (a, b)) ++ pairsOf l := by
  unfold pairsOf
  show ((choose 1 l).map (a :: ·) ++ choose 2 l).map _ = _
  rw [List.map_append, choose_one, List.map_map, List.map_map]
  rfl
end CP
end

section
set_option linter.all false
namespace CP
open Kqb4
/-! What the landed code's own walks come to: fractions added from the left, exchanges by places, pairs, packs counted. -/
theorem addU_assoc (a b c : Nat × Nat) : addU (addU a b) c = addU a (addU b c) := by
  unfold addU
  refine Prod.ext ?_ (Nat.mul_assoc _ _ _)
  show (a.1 * b.2 + b.1 * a.2) * c.2 + c.1 * (a.2 * b.2) = a.1 * (b.2 * c.2) + (b.1 * c.2 + c.1 * b.2) * a.2
  rw [Nat.add_mul, Nat.add_mul, Nat.add_assoc]
  congr 1
  · ac_rfl
  · congr 1 <;> ac_rfl
theorem foldl_frac : ∀ (l : List (Nat × Nat)) (x : Nat × Nat), 0 < x.2 → (∀ z ∈ l, 0 < z.2) → (l.map fun x => frac x.1 x.2).foldl add (frac x.1 x.2) = frac (addU x (sumU l)).1 (addU x (sumU l)).2
  | [], x, _, _ => by
    show frac x.1 x.2 = frac (x.1 * 1 + 0 * x.2) (x.2 * 1)
    rw [Nat.mul_one, Nat.mul_one, Nat.zero_mul, Nat.add_zero]
  | z :: l, x, hx, h => by
    rw [List.map_cons, List.foldl_cons, add_frac hx (h z (by simp))]
    have := foldl_frac l (addU x z) (Nat.mul_pos hx (h z (by simp))) fun w hw => h w (by simp [hw])
    refine this.trans ?_
    rw [addU_assoc]
    rfl
theorem foldl_sum {l : List (Nat × Nat)} (h : ∀ z ∈ l, 0 < z.2) : (l.map fun x => frac x.1 x.2).foldl add ⟨0, 1⟩ = frac (sumU l).1 (sumU l).2 := by
  have := foldl_frac l (0, 1) Nat.one_pos h
  refine this.trans ?_
  have e : addU (0, 1) (sumU l) = sumU l := by
    unfold addU
    refine Prod.ext ?_ ?_
    · show 0 * (sumU l).2 + (sumU l).1 * 1 = (sumU l).1
      rw [Nat.zero_mul, Nat.zero_add, Nat.mul_one]
    · show 1 * (sumU l).2 = _
      rw [Nat.one_mul]
  rw [e]
theorem frac_one {r : Nat} (h : 0 < r) : frac 1 r = ⟨1, r⟩ := by
  rw [frac_pos h, Nat.gcd_one_left, Nat.div_one, Nat.div_one]
theorem frac_co {n d : Nat} (hd : 0 < d) : Nat.gcd (frac n d).num (frac n d).den = 1 := by
  rw [frac_pos hd]
  exact Nat.gcd_div_gcd_div_gcd_of_pos_right hd
theorem frac_turn {n d : Nat} (hd : 0 < d) : frac (frac n d).den (frac n d).num = ⟨(frac n d).den, (frac n d).num⟩ := by
  have h : Nat.gcd (frac n d).den (frac n d).num = 1 := by rw [Nat.gcd_comm]; exact frac_co hd
  generalize (frac n d).den = a at h
  generalize (frac n d).num = b at h
  unfold frac
  simp only [h, Nat.div_one]
  rfl
/-- cells side by side, from the left -/
def sideF (l : List Nat) : Frac := (l.map fun r => (⟨1, r⟩ : Frac)).foldl add ⟨0, 1⟩
theorem side_sum {l : List Nat} (h : ∀ r ∈ l, 0 < r) : sideF l = frac (sumU (l.map fun r => (1, r))).1 (sumU (l.map fun r => (1, r))).2 ∧ 0 < (sumU (l.map fun r => (1, r))).2 := by
  have hp : ∀ x ∈ l.map (fun r => (1, r)), 0 < x.2 := fun x hx => by
    obtain ⟨r, hr, rfl⟩ := List.mem_map.mp hx
    exact h r hr
  refine ⟨?_, sumU_den hp⟩
  rw [← foldl_sum hp, List.map_map]
  unfold sideF
  congr 1
  exact List.map_congr_left fun r hr => (frac_one (h r hr)).symm
theorem side_group {y : Shop} {l : List Nat} (hl : l ≠ []) (h : ∀ i ∈ l, 0 < resists y i) : groupResists y l = ⟨(sideF (l.map (resists y))).den, (sideF (l.map (resists y))).num⟩ ∧ 0 < (sideF (l.map (resists y))).num := by
  have hr : ∀ r ∈ l.map (resists y), 0 < r := fun r hr => by
    obtain ⟨i, hi, rfl⟩ := List.mem_map.mp hr
    exact h i hi
  obtain ⟨e, hd⟩ := side_sum hr
  have hn := sumU_num (l := (l.map (resists y)).map fun r => (1, r)) (by simpa using hl) fun x hx => by
    obtain ⟨r, hr', rfl⟩ := List.mem_map.mp hx
    exact ⟨Nat.one_pos, hr r hr'⟩
  rw [e]
  constructor
  · rw [← frac_turn hd]
    unfold groupResists
    have e2 : (l.map fun i => frac 1 (resists y i)) = ((l.map (resists y)).map fun r => (1, r)).map fun x => frac x.1 x.2 := by rw [List.map_map, List.map_map]; rfl
    rw [e2, fold_add fun x hx => by
      obtain ⟨r, hr', rfl⟩ := List.mem_map.mp hx
      exact hr r hr']
  · have hw := frac_worth (n := (sumU ((l.map (resists y)).map fun r => (1, r))).1) hd
    refine Nat.pos_of_ne_zero fun e0 => ?_
    rw [e0, Nat.zero_mul] at hw
    have := Nat.mul_pos hn (frac_den (n := (sumU ((l.map (resists y)).map fun r => (1, r))).1) hd)
    omega
theorem side_pos {l : List Nat} (hl : l ≠ []) (hr : ∀ r ∈ l, 0 < r) : 0 < (sideF l).num := by
  obtain ⟨e, hd⟩ := side_sum hr
  have hn := sumU_num (l := l.map fun r => (1, r)) (by simpa using hl) fun x hx => by
    obtain ⟨r, hr', rfl⟩ := List.mem_map.mp hx
    exact ⟨Nat.one_pos, hr r hr'⟩
  rw [e]
  have hw := frac_worth (n := (sumU (l.map fun r => (1, r))).1) hd
  refine Nat.pos_of_ne_zero fun e0 => ?_
  rw [e0, Nat.zero_mul] at hw
  have := Nat.mul_pos hn (frac_den (n := (sumU (l.map fun r => (1, r))).1) hd)
  omega
theorem cut_ne {g i : Nat} {l : List Nat} (hg : 0 < g) (h : i < (l.length + g - 1) / g) : cutAt g l i ≠ [] := fun e => by
  have h1 : (i + 1) * g ≤ l.length + g - 1 := Nat.le_trans (Nat.mul_le_mul_right g h) (Nat.div_mul_le_self _ _)
  rw [Nat.add_mul, Nat.one_mul] at h1
  have := congrArg List.length e
  unfold cutAt at this
  rw [List.length_take, List.length_drop] at this
  simp at this
  omega
theorem cuts_get {g i : Nat} {l : List Nat} (h : i < (l.length + g - 1) / g) : (cuts g l)[i]? = some (cutAt g l i) := by
  unfold cuts
  rw [List.getElem?_map, List.getElem?_range h]
  rfl
theorem cuts_len (g : Nat) (l : List Nat) : (cuts g l).length = (l.length + g - 1) / g := by simp [cuts]
theorem cut_len (g i : Nat) (l : List Nat) : (cutAt g l i).length ≤ g := by
  unfold cutAt
  rw [List.length_take]
  omega
theorem frac_le {n d : Nat} (hd : 0 < d) : (frac n d).num ≤ n ∧ (frac n d).den ≤ d := by
  rw [frac_pos hd]
  exact ⟨Nat.div_le_self _ _, Nat.div_le_self _ _⟩
theorem side_le : ∀ (l : List Nat) (f : Frac) (k : Nat), (∀ r ∈ l, 0 < r ∧ r ≤ 100) → 0 < f.den → f.den ≤ 100 ^ k → f.num ≤ k * 100 ^ k →
    0 < ((l.map fun r => (⟨1, r⟩ : Frac)).foldl add f).den ∧ ((l.map fun r => (⟨1, r⟩ : Frac)).foldl add f).den ≤ 100 ^ (k + l.length) ∧ ((l.map fun r => (⟨1, r⟩ : Frac)).foldl add f).num ≤ (k + l.length) * 100 ^ (k + l.length)
  | [], f, k, _, h0, h1, h2 => ⟨h0, h1, h2⟩
  | r :: l, f, k, h, h0, h1, h2 => by
    obtain ⟨r0, r1⟩ := h r (by simp)
    have hd : 0 < f.den * r := Nat.mul_pos h0 r0
    have h3 := frac_le (n := f.num * r + 1 * f.den) hd
    have h4 := frac_den (n := f.num * r + 1 * f.den) hd
    have h5 : f.den * r ≤ 100 ^ (k + 1) := by
      rw [Nat.pow_succ]
      exact Nat.mul_le_mul h1 r1
    have h6 : f.num * r + 1 * f.den ≤ (k + 1) * 100 ^ (k + 1) := by
      have a : f.num * r ≤ (k * 100 ^ k) * 100 := Nat.mul_le_mul h2 r1
      have b : (k + 1) * 100 ^ (k + 1) = (k * 100 ^ k) * 100 + 100 ^ k * 100 := by rw [Nat.pow_succ, Nat.add_mul, Nat.one_mul, Nat.mul_assoc]
      omega
    have := side_le l (add f ⟨1, r⟩) (k + 1) (fun z hz => h z (by simp [hz])) h4 (Nat.le_trans h3.2 h5) (Nat.le_trans h3.1 h6)
    rw [List.map_cons, List.foldl_cons, List.length_cons, show k + (l.length + 1) = k + 1 + l.length by omega]
    exact this
theorem side_bd {l : List Nat} (h : ∀ r ∈ l, 0 < r ∧ r ≤ 100) (h4 : l.length ≤ 4) : 0 < (sideF l).den ∧ (sideF l).den ≤ 100000000 ∧ (sideF l).num ≤ 400000000 := by
  obtain ⟨a, b, c⟩ := side_le l ⟨0, 1⟩ 0 h Nat.one_pos (by simp) (by simp)
  rw [Nat.zero_add] at b c
  have e : 100 ^ l.length ≤ 100 ^ 4 := Nat.pow_le_pow_right (by omega) h4
  exact ⟨a, Nat.le_trans b (Nat.le_trans e (by decide)), Nat.le_trans c (Nat.le_trans (Nat.mul_le_mul h4 e) (by decide))⟩
theorem side_snoc {l : List Nat} {r : Nat} : sideF (l ++ [r]) = add (sideF l) ⟨1, r⟩ := by
  unfold sideF
  rw [List.map_append, List.foldl_append]
  rfl
/-- groups behind one another, from the left -/
def rowF (l : List Frac) : Frac := l.foldl add ⟨0, 1⟩
theorem row_snoc {l : List Frac} {f : Frac} : rowF (l ++ [f]) = add (rowF l) f := by
  unfold rowF
  rw [List.foldl_append]
  rfl
theorem row_le (M : Nat) : ∀ (l : List Frac) (f : Frac) (k : Nat), (∀ x ∈ l, 0 < x.den ∧ x.den ≤ M) → 0 < f.den → f.den ≤ M ^ k → 0 < (l.foldl add f).den ∧ (l.foldl add f).den ≤ M ^ (k + l.length)
  | [], f, k, _, h0, h1 => ⟨h0, h1⟩
  | x :: l, f, k, h, h0, h1 => by
    obtain ⟨x0, x1⟩ := h x (by simp)
    have hd : 0 < f.den * x.den := Nat.mul_pos h0 x0
    have h3 := frac_le (n := f.num * x.den + x.num * f.den) hd
    have h4 := frac_den (n := f.num * x.den + x.num * f.den) hd
    have h5 : f.den * x.den ≤ M ^ (k + 1) := by
      rw [Nat.pow_succ]
      exact Nat.mul_le_mul h1 x1
    have := row_le M l (add f x) (k + 1) (fun z hz => h z (by simp [hz])) h4 (Nat.le_trans h3.2 h5)
    rw [List.foldl_cons, List.length_cons, show k + (l.length + 1) = k + 1 + l.length by omega]
    exact this
theorem row_bd {l : List Frac} (h : ∀ x ∈ l, 0 < x.den ∧ x.den ≤ 400000000) (h4 : l.length ≤ 4) : 0 < (rowF l).den ∧ (rowF l).den ≤ 2 ^ 128 := by
  obtain ⟨a, b⟩ := row_le 400000000 l ⟨0, 1⟩ 0 h Nat.one_pos (by simp)
  rw [Nat.zero_add] at b
  have e : 400000000 ^ l.length ≤ 400000000 ^ 4 := Nat.pow_le_pow_right (by omega) h4
  exact ⟨a, Nat.le_trans b (Nat.le_trans e (by decide))⟩
theorem pack_row {y : Shop} {p : List (List Nat)} (hp : ∀ l ∈ p, l ≠ []) (h : ∀ i ∈ p.flatten, 0 < resists y i) : packResists y p = rowF (p.map (groupResists y)) := by
  have hg : ∀ l ∈ p, groupResists y l = frac (groupU y l).1 (groupU y l).2 ∧ 0 < (groupU y l).1 ∧ 0 < (groupU y l).2 := fun l hl => group_frac (hp l hl) fun i hi => h i (List.mem_flatten.mpr ⟨l, hl, hi⟩)
  have hd : ∀ x ∈ p.map (groupU y), 0 < x.2 := fun x hx => by
    obtain ⟨l, hl, rfl⟩ := List.mem_map.mp hx
    exact (hg l hl).2.2
  have e : p.map (groupResists y) = (p.map (groupU y)).map fun x => frac x.1 x.2 := by
    rw [List.map_map]
    exact List.map_congr_left fun l hl => (hg l hl).1
  unfold packResists rowF
  rw [e, fold_add hd, foldl_sum hd]
/-- what a group answers, the fraction turned -/
def turnF (l : List Nat) : Frac := ⟨(sideF l).den, (sideF l).num⟩
theorem pack_turn {y : Shop} {p : List (List Nat)} (hp : ∀ l ∈ p, l ≠ []) (h : ∀ i ∈ p.flatten, 0 < resists y i) : packResists y p = rowF ((p.map fun l => l.map (resists y)).map turnF) := by
  rw [pack_row hp h, List.map_map]
  congr 1
  exact List.map_congr_left fun l hl => (side_group (hp l hl) fun i hi => h i (List.mem_flatten.mpr ⟨l, hl, hi⟩)).1
/-! exchanges, by places -/
theorem put_set {l : List Nat} (nd : l.Nodup) {k i : Nat} (h : l[k]? = some i) (j : Nat) : (l.map fun x => if x = i then j else x) = l.set k j := by
  obtain ⟨hk, e⟩ := List.getElem?_eq_some_iff.mp h
  refine List.ext_getElem? fun m => ?_
  rw [List.getElem?_map]
  by_cases hm : m = k
  · subst hm
    rw [h, List.getElem?_set_self hk]
    simp
  · rw [List.getElem?_set_ne (Ne.symm hm)]
    cases q : l[m]? with
    | none => rfl
    | some x =>
      have : x ≠ i := fun z => hm ((List.getElem?_inj hk nd).mp (by rw [h, q, z])).symm
      simp [this]
theorem strength_put {y : Shop} {p : List (List Nat)} {g : Nat} (g0 : 0 < g) (hl : ∀ x ∈ p, x.length = g) (nd : p.flatten.Nodup) {k i : Nat} (h : p.flatten[k]? = some i) (j : Nat) :
    least (tots g (y.cells.map fun x => x.holds) (p.flatten.set k j)) = strength y (put p i j) := by
  rw [← put_set nd h, ← put_flat, tots_flat g0 y (put_lens hl)]
  rfl
def exPre (l : List Nat) (lo : List Nat) : List (Nat × Nat) := l.flatMap fun i => lo.map fun j => (i, j)
theorem exPre_snoc {l lo : List Nat} {i : Nat} : exPre (l ++ [i]) lo = exPre l lo ++ lo.map fun j => (i, j) := by
  unfold exPre
  rw [List.flatMap_append, List.flatMap_cons, List.flatMap_nil, List.append_nil]
/-! pairs, by the first one's place -/
def pk : Nat → List Nat → List (Nat × Nat)
  | 0, _ => []
  | _ + 1, [] => []
  | k + 1, a :: l => l.map (fun b => (a, b)) ++ pk k l
theorem pk_snoc : ∀ {k : Nat} {l : List Nat} {a : Nat}, l[k]? = some a → pk (k + 1) l = pk k l ++ (l.drop (k + 1)).map fun b => (a, b)
  | 0, [], a, h => by cases h
  | 0, x :: l, a, h => by
    have e : x = a := Option.some.inj h
    subst e
    show l.map _ ++ [] = [] ++ _
    rw [List.append_nil]
    rfl
  | k + 1, [], a, h => by cases h
  | k + 1, x :: l, a, h => by
    have ih := pk_snoc (k := k) (l := l) (a := a) (by simpa using h)
    show l.map _ ++ pk (k + 1) l = (l.map _ ++ pk k l) ++ _
    rw [ih, List.append_assoc]
    rfl
theorem pk_all : ∀ l : List Nat, pk l.length l = pairsOf l
  | [] => rfl
  | a :: l => by
    rw [pairs_cons, ← pk_all l]
    rfl
theorem near_none {y : Shop} (h : (loose y).length < 2) : near y = none := by
  rw [near_walk]
  match q : loose y, h with
  | [], _ => rfl
  | [a], _ => rfl
  | a :: b :: l, h => exact absurd h (by simp only [List.length_cons]; omega)
theorem near_some {y : Shop} (h : ¬ (loose y).length < 2) : ∃ v, near y = some v := by
  rw [near_walk]
  match q : loose y, h with
  | [], h => simp at h
  | [a], h => simp at h
  | a :: b :: l, h =>
    rw [pairs_cons, List.map_cons, List.cons_append, List.foldl_cons]
    obtain ⟨w, hw, _⟩ := low_is (farOf y) (List.map (fun b => (a, b)) l ++ pairsOf (b :: l)) (a, b)
    exact ⟨w, hw⟩
/-! packs counted -/
theorem count_some {α : Type} : ∀ l : List (Option α), (l.filterMap id).length = ((List.range l.length).filter fun n => (l.getD n none).isSome).length
  | [] => rfl
  | x :: l => by
    have ih := count_some l
    rw [List.length_cons, List.range_succ_eq_map, List.filter_cons, List.filter_map, ]
    have e : ((fun n => ((x :: l).getD n none).isSome) ∘ Nat.succ) = fun n => (l.getD n none).isSome := by
      funext n
      rfl
    rw [e]
    cases x with
    | none =>
      show (l.filterMap id).length = (List.map Nat.succ _).length
      rw [List.length_map, ih]
    | some v =>
      show (v :: l.filterMap id).length = (0 :: List.map Nat.succ _).length
      rw [List.length_cons, List.length_cons, List.length_map, ih]
theorem count_keys {α : Type} {l : List (Option α)} {ks : List Nat} (nd : ks.Nodup) (h1 : ∀ n ∈ ks, ∃ q, l[n]? = some (some q)) (h2 : ∀ (n : Nat) q, l[n]? = some (some q) → n ∈ ks) : ks.length = (l.filterMap id).length := by
  rw [count_some]
  refine Nat.le_antisymm (nodup_le nd fun n hn => ?_) (nodup_le (List.Pairwise.filter _ List.nodup_range) fun n hn => ?_)
  · obtain ⟨q, hq⟩ := h1 n hn
    refine List.mem_filter.mpr ⟨List.mem_range.mpr (List.getElem?_eq_some_iff.mp hq).1, ?_⟩
    rw [List.getD_eq_getElem?_getD, hq]
    rfl
  · obtain ⟨hn1, hn2⟩ := List.mem_filter.mp hn
    rw [List.getD_eq_getElem?_getD] at hn2
    cases e : l[n]? with
    | none => rw [e] at hn2; cases hn2
    | some v =>
      cases v with
      | none => rw [e] at hn2; cases hn2
      | some q => exact h2 n q e
end CP
end

section
set_option Elab.async false
set_option linter.all false
set_option maxRecDepth 100000
/-! Rules that the layer lacks: `>` of tuples of ints, a call through a local name, a dict of the module's top, loops over enumerate, xs[i] op= e -/
namespace CPT
open PySem PyProof.Rows HT
theorem rcGt_int (A : Around) (s : Shared) (a : Int) (t : Tok) (c : Int) (u : Tok) (prog : Program) (w : World) (E : Value → Shared → Prop) (Q : Value → Shared → Prop) (h : Q (.bool (decide (c < a))) s) :
    wpAny (model prog w) A (richCompare .Gt (.int a t) (.int c u)) Q E s :=
  (PyProof.Rows.gt_int h : wpAny (model prog w) A (compareOp .Gt (.int a t) (.int c u)) Q E s)
section
open PySem.SeqAt
open PySem.AutoSeq1 (wpAny_loadPart')
open PySem.MeetsSeq PySem.MeetsSeq2 PySem.MeetsSeq3
theorem tuple_gt_ints (l b : Addr) (items items2 : Array Value) (n n2 : Nat) (dd dd2 : Option Addr) (sl sl2 : Array (Option Value)) (ns ms : List Int) (hi : IntsAre items.toList ns) (hj : IntsAre items2.toList ms) :
    Meets (Builtin.«tuple.__gt__» ⟨[.ref l, .ref b], []⟩)
      (fun _ R s => s.heap.get? l = some { cls := .type "tuple", dict := dd, data := .seq items n, slots := sl } ∧ s.heap.get? b = some { cls := .type "tuple", dict := dd2, data := .seq items2 n2, slots := sl2 } ∧
        R (.ok (.ret (.bool (lexLt ms ns)))) s) :=
  .of_wp fun prog w A R s h => by
    obtain ⟨hp, g, d, tk, os⟩ := s; obtain ⟨hl, hb, h⟩ := h
    have f2 := AutoSeq1.sub_tuple_tuple
    have z1 : items.size = ns.length := by rw [← hi.length]; simp
    have z2 : items2.size = ms.length := by rw [← hj.length]; simp
    wp_walk using wpAny_loadPart' hl, wpAny_loadPart' hb, wpAny_forIn_list _ (fun rest b s' => b.1 = none ∧ s' = ⟨hp, g, d, tk, os⟩ ∧ ∃ (vs ws : List Value) (ns' ms' : List Int), rest = vs.zip ws ∧
      IntsAre vs ns' ∧ IntsAre ws ms' ∧ ns'.length + items2.size = ms'.length + items.size ∧ R (.ok (.ret (.bool (lexLt ms' ns')))) ⟨hp, g, d, tk, os⟩) _
    case turn =>
      rintro ⟨y, x⟩ rest b s' ⟨hb', rfl, vs, ws, ns', ms', hz, hvi, hwi, hlen, hR⟩
      cases hvi with
      | nil => rw [List.zip_nil_left] at hz; cases hz
      | cons a t hvi' =>
        cases hwi with
        | nil => rw [List.zip_nil_right] at hz; cases hz
        | cons c u hwi' =>
          rw [List.zip_cons_cons] at hz
          injection hz with hyx hrest
          injection hyx with hy hx
          subst hy hx
          rw [lexLt_cons] at hR
          simp only [List.length_cons] at hlen
          obtain ⟨e, he, hiff⟩ := eqAt_int A.in1 ⟨hp, g, d, tk, os⟩ a t c u
          refine wpAny_bind (he prog w _ _ ?_)
          cases e with
          | true =>
            rw [if_pos (hiff.mp rfl).symm] at hR
            wp_walk
            exact ⟨rfl, rfl, _, _, _, _, hrest, hvi', hwi', by omega, hR⟩
          | false =>
            rw [if_neg (fun q => absurd (hiff.mpr q.symm) Bool.false_ne_true)] at hR
            have hri := rcGt_int A.in1 ⟨hp, g, d, tk, os⟩ a t c u prog w
            wp_walk using hri
            exact ⟨_, rfl, by simpa using hR⟩
    case fin =>
      rintro ⟨b1, b2⟩ s' ⟨hb', rfl, vs, ws, ns', ms', hz, hvi, hwi, hlen, hR⟩
      simp only at hb'
      subst hb'
      have hv : lexLt ms' ns' = decide (items2.size < items.size) := by
        cases hvi with
        | nil =>
          cases hwi with
          | nil =>
            simp only [List.length_nil] at hlen
            rw [lexLt_nil_nil]
            exact (decide_eq_false (by omega)).symm
          | cons c u hw =>
            simp only [List.length_nil, List.length_cons] at hlen
            rw [lexLt_cons_nil]
            exact (decide_eq_false (by omega)).symm
        | cons a t hv =>
          cases hwi with
          | nil =>
            simp only [List.length_nil, List.length_cons] at hlen
            rw [lexLt_nil_cons]
            exact (decide_eq_true (by omega)).symm
          | cons c u hw =>
            rw [List.zip_cons_cons] at hz
            cases hz
      rw [hv] at hR
      wp_walk
      exact ⟨_, rfl, by simpa [Builtin.Tuple.tupleCompareSizes] using hR⟩
    case h =>
      exact ⟨rfl, rfl, items.toList, items2.toList, ns, ms, rfl, hi, hj, by omega, h⟩
end
theorem gt_tupInts {prog : Program} {w : World} {A : Around} {E : Value → Shared → Prop} {s : Shared} {l b : Addr} {items items2 : Array Value} {ns ms : List Int} {Q : Value → Shared → Prop} (hl : IsTup s.heap l items) (hb : IsTup s.heap b items2) (hi : IntsAre items.toList ns) (hj : IntsAre items2.toList ms)
    (hu : A.units < cLine) (h : Q (.bool (lexLt ms ns)) s) : wpAny (model prog w) A (compareOp .Gt (.ref l) (.ref b)) Q E s := by
  obtain ⟨⟨cls, dd, data, sl⟩, ho, hc, n, hd⟩ := id hl
  obtain ⟨⟨cls2, dd2, data2, sl2⟩, ho2, hc2, n2, hd2⟩ := id hb
  simp only at hc hd hc2 hd2
  subst hc hd hc2 hd2
  exact richCompare_meets_room (op := .Gt) ⟨_, ho, rfl⟩ ⟨_, ho2, rfl⟩ PySem.F.slot_tuple_gt PySem.F.entry_tuple_gt (PySem.F.args_tuple_gt_2 _ _) (tuple_gt_ints l b items items2 n n2 dd dd2 sl sl2 ns ms hi hj)
    ⟨ho, ho2, show Value.bool (lexLt ms ns) ≠ Value.notImplemented ∧ Q (.bool (lexLt ms ns)) s from ⟨(fun x => nomatch x), h⟩⟩ hu
end CPT

namespace CP
open PySem PySem.Spec PyProof.Rows L2
section
variable {X : Cx}
/-- t > u of tuples of ints -/
def rGtT (K : PySem.W.Frag) : R2 := fun x y H Q => ∃ a b ns ms, x = .ref a ∧ y = .ref b ∧ SqT K H a (ns.map V.int) ∧ SqT K H b (ms.map V.int) ∧ Q (.bl (HT.lexLt ms ns)) H
theorem op_gtT (hu : X.A.units < cLine) : OpR X (compareOp .Gt) (rGtT X.K) := by
  intro pins s σ H x y v u Q I rx ry h
  obtain ⟨a, b, ns, ms, rfl, rfl, ha, hb, q⟩ := h
  cases rx
  cases ry
  obtain ⟨its, r1, p1, _⟩ := I.tuple ha
  obtain ⟨its2, r2, p2, _⟩ := I.tuple hb
  have i1 : IntsAre its.toArray.toList ns := intsAre_of r1
  have i2 : IntsAre its2.toArray.toList ms := intsAre_of r2
  exact CPT.gt_tupInts p1 p2 i1 i2 hu ⟨.bl (HT.lexLt ms ns), H, I, rfl, q⟩

/-! ### a call through a local name -/
def CallsTo (X : Cx) (fv : V) (sp : List V → Hp → VK → Prop) : Prop :=
  ∃ (k : Nat) (f : Addr) (fd : FuncData) (ps : List Str) (sq : Sp), fv = .ref f ∧ FnOk X.prog X.w X.K X.mg X.base CX0 k f fd ps sq ∧ Room k X.A ∧ PySem.W.keepIn X.K (.ref f) = true ∧ Binds X.K fd ps [] ∧ ∀ vs H Q, sp vs H Q → sq vs H Q E0
def tCallV (X : Cx) (i : Nat) (t : TA) : TE := fun σ H Q => ∃ fv, σ[i]? = some (some fv) ∧ ∃ sp, CallsTo X fv sp ∧ t σ H fun vs H1 => sp vs H1 Q
theorem pe_callV {i : Nat} {x : Str} {p pos : Pos} {e : Expr} {es : List Expr} {t : TA} (hN : X.N[i]? = some x) (hv : Vis X.env.scope x) (ha : PA X (e :: es) t) (hd : (x == ("__debug__" : Str)) = false := by decide) (hcd : (x == ("__classdict__" : Str)) = false := by decide)
    (he : starEach (e :: es) X.env = (false, eval e X.env) :: starEach es X.env := by rfl) (hpl : (backTo pos (starEach es X.env)).any (·.1) = false := by rfl) :
    PE X (.Call (.Name x p) (e :: es) [] pos) (tCallV X i t) := by
  intro pins s σ H Q I h
  obtain ⟨fv, e1, sp, ⟨k, f, fd, ps, sq, rfl, F, hr, hk, hb, hsp⟩, h⟩ := h
  refine wpAny_Call_Name_kw (thn (pe_var hN hv hd hcd pins s σ H (fun v H' => v = .ref f ∧ H' = H) I ⟨_, e1, rfl, rfl⟩) fun u s1 ⟨v, H1, I1, r1, ev, eH⟩ => ?_)
  subst ev eH
  cases r1
  refine PySem.W.callWith_K (h₀ := X.base) I.ok.mod.kin hk (thn (ha pos pins s1 σ H1 _ I1 h) fun us s2 ⟨vs, H2, I2, r, q⟩ => ⟨I2.kIn, ?_⟩) he hpl
  exact run_fn (vs := vs) F hr hb .nil pass0 I2 r (by rw [List.append_nil]; exact hsp _ _ _ q)

/-! ### a dict of the module's top -/
/-- the dict at a, written at the top: its pairs -/
structure KD (K : PySem.W.Frag) (a : Addr) (kvs : List (Key × V)) : Prop where
  ex : ∃ (es : Array DictEntry) (ep : Nat) (vs : List (Key × Value)), K.lookup a = some ⟨.type "dict", none, .dict es ep, #[]⟩ ∧ KV kvs vs ∧ (∀ (P : Program) (w : World), KeysOf (mixKind P w) es ∧ Pairs (mixKind P w) es.toList vs) ∧ (vs.map (·.1)).Nodup
  sm : (a == sysModules) = false
theorem KD.dict {K : PySem.W.Frag} {a : Addr} {kvs : List (Key × V)} (h : KD K a kvs) (P : Program) (w : World) {g : Heap} (X : K.In g) : ∃ vs, KV kvs vs ∧ g.DictOf (mixKind P w) a vs := by
  obtain ⟨es, ep, vs, e, r, q, nd⟩ := h.ex
  exact ⟨vs, r, _, es, ep, X _ _ e, ⟨rfl, rfl, rfl⟩, rfl, (q P w).1, (q P w).2, nd⟩
def tDGetM (K : PySem.W.Frag) (td ty : TE) : TE := fun σ H Q => td σ H fun x H1 => ty σ H1 fun y H2 => ∃ a kvs k v, x = .ref a ∧ KD K a kvs ∧ y = kV k ∧ valV kvs k = some v ∧ Q v H2
theorem pe_dgetM {o i : Expr} {pos : Pos} {td ty : TE} (ho : PE X o td) (hi : PE X i ty) (hs : NoSl i) : PE X (.Subscript o i pos) (tDGetM X.K td ty) := by
  intro pins s σ H Q I h
  refine subD_of PySem.F.slot_dict_getitem.lookup hs (thn (ho pins s σ H _ I h) fun u s1 ⟨x, H1, I1, rx, q1⟩ => thn (hi pins s1 σ H1 _ I1 q1) fun iv s2 ⟨y, H2, I2, ry, a, kvs, k, v, ex, g, ey, l, q2⟩ => ?_)
  subst ex ey
  obtain rfl : u = Value.ref a := rx
  obtain ⟨vs, rel, dd⟩ := g.dict X.prog X.w I2.kIn
  refine ⟨dd.typeIs, ?_⟩
  obtain ⟨w', hw, rw'⟩ := RelO.some_of (v := v) (o := valueAt vs k) (by rw [← l]; exact rel.val k)
  exact wpAny_getItem_of (kV_is ry) dd.mapOf hw ⟨v, H2, I2.tok _, rw', q2⟩
def rDNotInM (K : PySem.W.Frag) : R2 := fun y x H Q => ∃ a kvs k, x = .ref a ∧ KD K a kvs ∧ y = kV k ∧ Q (.bl (!(valV kvs k).isSome)) H
theorem op_dnotinM : OpR X (compareOp .NotIn) (rDNotInM X.K) := by
  intro pins s σ H y x iv u Q I ry rx h
  obtain ⟨a, kvs, k, rfl, g, rfl, q⟩ := h
  obtain rfl : u = Value.ref a := rx
  obtain ⟨vs, rel, dd⟩ := g.dict X.prog X.w I.kIn
  refine wpAny_notIn_of (kV_is ry) g.sm dd.mapOf ?_
  rw [← (rel.val k).isSome_eq]
  exact ⟨.bl _, H, I.tok _, rfl, q⟩

/-! ### xs[i], by values, for xs[i] op= e -/
theorem get_list : PGet X (rIxL X.K) := by
  intro pins s σ H o i ov iv Q I ro ri h
  obtain ⟨p, xs, k, v, rfl, rfl, hs, ha, q⟩ := h
  cases ro
  obtain ⟨t, rfl⟩ := ri
  obtain ⟨its, r, pl, hz⟩ := I.list hs
  obtain ⟨j, h1, h2, h3, h4, h5⟩ := atI_get ha
  obtain ⟨w, ew, rw'⟩ := r.get h2
  have hl := r.length
  have hn := line63
  have fin : EP X pins σ Q w s := ⟨v, H, I, rw', q⟩
  by_cases h0 : 0 ≤ k
  · have hj : k.toNat = j := by
      rw [seqIndex_of h0 h5] at h1
      exact Option.some.inj h1
    exact wpAny_getItem_list pl.isList h0 (by omega) (x := w) (by rw [hj]; simpa using ew) fin
  · have hj : (k + (its.toArray.size : Int)).toNat = j := by
      rw [seqIndex_neg (by omega) h4] at h1
      rw [List.size_toArray, ← hl]
      exact Option.some.inj h1
    exact wpAny_getItem_list_neg pl.isList (by omega) (by rw [List.size_toArray] <;> omega) (by omega) (by rw [hj]; simpa using ew) fin
end

/-! ### loops over enumerate of a list that is left as it is: each turn brings a new pair -/
theorem for_enum {K : PySem.W.Frag} {a : Addr} {xs : List V} {g : TG} {tb : TS} {D : Ends} {σ : L2.St} {H : Hp} (Pv : Nat → L2.St → Hp → Prop) (h0 : Pv 0 σ H) (hl : ∀ i σ H, i ≤ xs.length → Pv i σ H → SqL K H a xs)
    (hs : ∀ i x σ H T, xs[i]? = some x → Pv i σ H → H T = none → g (.ref T) σ (upd H T (.tup [.int (i : Nat), x])) fun σ2 H2 => tb { D with nx := Pv (i + 1), ct := Pv (i + 1), bk := D.nx } σ2 H2) (hd : ∀ σ H, Pv xs.length σ H → D.nx σ H) :
    ∃ W : Nat → Nat → L2.St → Hp → Prop, (∃ m, W 0 m σ H) ∧ ∀ i m σ H, W i m σ H →
      ((Ite K a).stop i H ∧ D.nx σ H) ∨ ((Ite K a).go i H ∧ ∃ N : L2.St → Hp → Prop, (∀ σ' H', N σ' H' → ∃ m', m' < m ∧ W (i + 1) m' σ' H') ∧ ∀ x H', (Ite K a).yld i H x H' → g x σ H' fun σ2 H2 => tb { D with nx := N, ct := N, bk := D.nx } σ2 H2) := by
  refine ⟨fun i m σ H => m = xs.length - i ∧ i ≤ xs.length ∧ Pv i σ H, ⟨xs.length, by simp, Nat.zero_le _, h0⟩, ?_⟩
  rintro i m σ H ⟨rfl, hi, p⟩
  have q := hl i σ H hi p
  by_cases hlt : i < xs.length
  · refine .inr ⟨⟨xs, xs[i], q, by simp [hlt]⟩, Pv (i + 1), fun σ' H' p' => ⟨xs.length - (i + 1), by omega, rfl, hlt, p'⟩, fun x H' y => ?_⟩
    obtain ⟨T, v, rfl, hT, rfl, hy⟩ := y
    exact hs i v σ H T (hy xs q) p hT
  · have e : i = xs.length := by omega
    subst e
    exact .inl ⟨⟨xs, q, Nat.le_refl _⟩, hd σ H p⟩
theorem lc_enum {K : PySem.W.Frag} {a : Addr} {xs : List V} {g : TG} {tt : TT} {te : TE} {vs : List Nat} {σ : L2.St} {H1 : Hp} {D : Addr} {Qd : Hp → Prop} (Pv : Nat → Hp → Prop) (h0 : Pv 0 (upd H1 D (.lst []))) (hl : ∀ i H, i ≤ xs.length → Pv i H → SqL K H a xs)
    (hs : ∀ i x H T, xs[i]? = some x → Pv i H → H T = none → g (.ref T) (wipe σ vs) (upd H T (.tup [.int (i : Nat), x])) fun σ2 H2 => wipe σ2 vs = wipe σ vs ∧ tt σ2 H2 fun b H3 =>
      if b = true then te σ2 H3 fun y H4 => ∃ acc, H4 D = some (.lst acc) ∧ acc.length < sizeLine ∧ Pv (i + 1) (upd H4 D (.lst (acc ++ [y]))) else Pv (i + 1) H3) (hd : ∀ H, Pv xs.length H → Qd H) :
    ∃ W : Nat → Nat → Hp → Prop, (∃ m, W 0 m (upd H1 D (.lst []))) ∧ ∀ i m H, W i m H →
      ((Ite K a).stop i H ∧ Qd H) ∨ ((Ite K a).go i H ∧ ∃ Nx : Hp → Prop, (∀ H', Nx H' → ∃ m', m' < m ∧ W (i + 1) m' H') ∧ ∀ x H', (Ite K a).yld i H x H' → g x (wipe σ vs) H' fun σ2 H2 => wipe σ2 vs = wipe σ vs ∧ tt σ2 H2 fun b H3 =>
        if b = true then te σ2 H3 fun y H4 => ∃ acc, H4 D = some (.lst acc) ∧ acc.length < sizeLine ∧ Nx (upd H4 D (.lst (acc ++ [y]))) else Nx H3) := by
  refine ⟨fun i m H => m = xs.length - i ∧ i ≤ xs.length ∧ Pv i H, ⟨xs.length, by simp, Nat.zero_le _, h0⟩, ?_⟩
  rintro i m H ⟨rfl, hi, p⟩
  have q := hl i H hi p
  by_cases hlt : i < xs.length
  · refine .inr ⟨⟨xs, xs[i], q, by simp [hlt]⟩, Pv (i + 1), fun H' p' => ⟨xs.length - (i + 1), by omega, rfl, hlt, p'⟩, fun x H' y => ?_⟩
    obtain ⟨T, v, rfl, hT, rfl, hy⟩ := y
    exact hs i v H T (hy xs q) p hT
  · have e : i = xs.length := by omega
    subst e
    exact .inl ⟨⟨xs, q, Nat.le_refl _⟩, hd H p⟩

/-! ### lists of naturals -/
def nvs (l : List Nat) : List V := (l.map fun (n : Nat) => (n : Int)).map V.int
abbrev nv (n : Nat) : V := .int (n : Int)
theorem nvs_nil : nvs [] = [] := rfl
theorem nvs_cons (a : Nat) (l : List Nat) : nvs (a :: l) = nv a :: nvs l := rfl
theorem nvs_app (a b : List Nat) : nvs (a ++ b) = nvs a ++ nvs b := by simp [nvs]
theorem nvs_len (l : List Nat) : (nvs l).length = l.length := by simp [nvs]
theorem nvs_get {l : List Nat} {i : Nat} {x : V} (h : (nvs l)[i]? = some x) : ∃ n, l[i]? = some n ∧ x = nv n := by
  unfold nvs at h
  rw [List.getElem?_map, List.getElem?_map] at h
  cases e : l[i]? with
  | none => rw [e] at h; cases h
  | some n => rw [e] at h; exact ⟨n, rfl, (Option.some.inj h).symm⟩
theorem nvs_at {l : List Nat} {i n : Nat} (h : l[i]? = some n) : (nvs l)[i]? = some (nv n) := by
  unfold nvs; rw [List.getElem?_map, List.getElem?_map, h]; rfl
theorem nvs_drop (l : List Nat) (n : Nat) : (nvs l).drop n = nvs (l.drop n) := by simp [nvs, List.map_drop]
theorem nvs_take (l : List Nat) (n : Nat) : (nvs l).take n = nvs (l.take n) := by simp [nvs, List.map_take]
theorem nvs_flat (l : List Nat) : (nvs l).all flatV = true := by
  unfold nvs
  rw [List.all_eq_true]
  intro x hx
  simp only [List.mem_map] at hx
  obtain ⟨_, _, rfl⟩ := hx
  rfl
theorem nvs_in (l : List Nat) (n : Nat) : inV (nv n) (nvs l) = l.contains n := by
  induction l with
  | nil => rfl
  | cons a l ih =>
    rw [nvs_cons]
    show (eqV (nv a) (nv n) || inV (nv n) (nvs l)) = _
    rw [ih, List.contains_cons]
    congr 1
    show ((a : Int) == (n : Int)) = (n == a)
    by_cases h : n = a
    · subst h; simp
    · have h1 : ¬ (a : Int) = (n : Int) := fun e => h (by omega)
      rw [beq_eq_false_iff_ne.mpr h1, beq_eq_false_iff_ne.mpr h]
theorem take_snoc {α : Type} {l : List α} {i : Nat} {x : α} (h : l[i]? = some x) : l.take (i + 1) = l.take i ++ [x] := by
  obtain ⟨hi, e⟩ := List.getElem?_eq_some_iff.mp h
  rw [List.take_succ, h]
  rfl
theorem seq_keep {K : PySem.W.Frag} {H H' : Hp} {a : Addr} {xs : List V} (h : SqL K H a xs) (k : ∀ o, H a = some o → H' a = some o) : SqL K H' a xs := by
  rcases h with (h | ⟨o, h⟩) | h
  · exact .inl (.inl (k _ h))
  · exact .inl (.inr ⟨o, k _ h⟩)
  · exact .inr h
/-- kept but for one new list -/
theorem _root_.L2.Same.laid {H H' : Hp} {p : Addr} {o : HO} (s : Same H H') (n : H' p = none) : Same H (upd H' p o) := fun b u e => by
  have e' := s b u e
  rw [upd_ne (ne_of_none e' n)]
  exact e'
theorem _root_.L2.Same.put {H H' : Hp} {p : Addr} {o : HO} (s : Same H H') (n : H p = none) : Same H (upd H' p o) := fun b u e => by
  rw [upd_ne (ne_of_none e n)]
  exact s b u e
theorem cut_nat (l : List V) (a g : Nat) : cutV l (some (a : Int)) (some ((a + g : Nat) : Int)) = (l.drop a).take g := by
  unfold cutV
  rw [HT.sIx_nat, HT.sIx_nat]
  by_cases h : a ≤ l.length
  · rw [show min a l.length = a by omega]
    by_cases h2 : a + g ≤ l.length
    · rw [show min (a + g) l.length - a = g by omega]
    · rw [List.take_of_length_le (by rw [List.length_drop]; omega), List.take_of_length_le (by rw [List.length_drop]; omega)]
  · rw [List.drop_of_length_le (by omega), List.drop_of_length_le (by omega), List.take_nil, List.take_nil]
/-! ### the same rules with the written part K named: a comprehension's block has it too -/
section
variable {X : Cx} {K : PySem.W.Frag}
theorem pe_fldK {e : Expr} {f : Str} {pos : Pos} {ta : TE} (hK : X.K = K) (he : PE X e ta) (hb : attributeBase e f X.env (eval e X.env) = eval e X.env) : PE X (.Attribute e f pos) (tFld K ta f) := by subst hK; exact pe_fld he hb
theorem ps_fldK {o value : Expr} {f : Str} {pos pos' : Pos} {ta tv : TE} (hK : X.K = K) (ha : PE X o ta) (hv : PE X value tv) (hs : swapsWith value (some (.Attribute o f pos')) pos.line X.env = pure false) : PS X (.Assign [.Attribute o f pos'] value pos) (sFld K ta tv f) := by subst hK; exact ps_fld ha hv hs
theorem pe_globI {x : Str} {i : Int} {pos : Pos} (hg : Gl X x) (hm : ∃ t, X.mg x = some (.int i t)) (hd : (x == ("__debug__" : Str)) = false := by decide) : PE X (.Name x pos) (tC (.int i)) := by
  obtain ⟨t, hm⟩ := hm
  exact pe_glob hg hm ⟨t, rfl⟩ hd
theorem ix_listK (hK : X.K = K) : IxR X (rIxL K) := by subst hK; exact ix_list
theorem ix_tupK (hK : X.K = K) : IxR X (rIxT K) := by subst hK; exact ix_tup
theorem len_seqK (hK : X.K = K) : CallR X (.builtin "len") (fun xs H Q => ∃ p ys, xs = [.ref p] ∧ (SqL K H p ys ∨ SqT K H p ys) ∧ Q (.int ys.length) H) := by subst hK; exact call_len_seq
theorem in_seqK (hK : X.K = K) : OpR X (compareOp .In) (rIn K false) := by subst hK; exact op_in_seq
theorem sumK (hK : X.K = K) (hc : X.calm = true) : CallR X (.builtin "sum") (rSum K) := by subst hK; exact cr_sum hc
theorem maxK (hK : X.K = K) (hc : X.calm = true) : CallR X (.builtin "max") (rMax K) := by subst hK; exact cr_max hc
theorem minK (hK : X.K = K) (hc : X.calm = true) : CallR X (.builtin "min") (rMin K) := by subst hK; exact cr_min hc
theorem pi_listK {tg l : Expr} {tl : TE} (hK : X.K = K) (hl : PE X l tl) : PI X tg l (iList K tl) := by subst hK; exact pi_list hl
theorem pi_enumK {e : Expr} {ta : TA} {p pos tpos : Pos} {elts : List Expr} {kk : Nat} (hK : X.K = K) (hg : Gl X "enumerate") (hm : X.mg "enumerate" = none) (ha : PA X [e] ta) (hs : starEach [e] X.env = [(false, eval e X.env)] := by rfl) :
    PI X (.Tuple elts kk tpos) (.Call (.Name "enumerate" p) [e] [] pos) (iEnum K ta) := by subst hK; exact pi_enum hg hm ha hs
theorem sl_listK (hK : X.K = K) : SlR X (rSlL K) := by subst hK; exact sl_list
theorem pg_tupK {es : List Expr} {k : Nat} {t : TGs} {n : Nat} {pos : Pos} (hK : X.K = K) (hc : X.calm = true) (h : PGs X es t)
    (hn : (assignEach es X.env).length = n := by rfl) (hst : (assignEach es X.env).findIdx? (·.1) = none := by rfl) : PG X (.Tuple es k pos) (gTup K n t) := by subst hK; exact pg_tup hc h hn hst
def tTru (K : PySem.W.Frag) (ta : TE) : TT := fun σ H Q => ta σ H fun x H' => ∃ k, TruV K x H' k ∧ Q k H'
theorem pt_truthK {a : Expr} {ta : TE} (hK : X.K = K) (ha : PE X a ta) (he : ∀ whole, isTrue a X.env whole = (do let v ← whole; standAt a.pos; holding [v] (truthy v))) :
    PT X a (tTru K ta) := by subst hK; exact pt_truth ha he
theorem pe_bmK {o e : Expr} {es : List Expr} {to : TE} {t : TA} {name : Str} {apos cpos : Pos} {T id : String} {r : V → List V → Hp → VK → Prop} (hK : X.K = K) (pa : PlainAttrs T) (slot : Slot T name id) (hty : typeOf (.builtin id) = pure (.type "method_descriptor")) (hm : MtR X id r) (ho : PE X o to) (ha : PA X (e :: es) t)
    (hbase : attributeBase o name X.env (eval o X.env) = eval o X.env := by rfl)
    (hfew : ((backTo cpos (starEach (e :: es) X.env)).all (fun x => !x.1) && (backToKw cpos (keywordEach [] X.env)).all (fun x => x.1.isSome)
      && decide ((e :: es).length + ([] : List Keyword).length + (if ([] : List Keyword).isEmpty then 0 else 1) < 30)) = true := by rfl)
    (hline : (apos.endLine == cpos.line) = true := by rfl) (hs : starEach (e :: es) X.env = (false, eval e X.env) :: starEach es X.env := by rfl) (hplain : (backTo cpos (starEach es X.env)).any (·.1) = false := by rfl) :
    PE X (.Call (.Attribute o name apos) (e :: es) [] cpos) (tBM K T r to t) := by subst hK; exact pe_bm pa slot hty hm ho ha hbase hfew hline hs hplain
theorem dgetMK {o i : Expr} {pos : Pos} {td ty : TE} (hK : X.K = K) (ho : PE X o td) (hi : PE X i ty) (hs : NoSl i) : PE X (.Subscript o i pos) (tDGetM K td ty) := by subst hK; exact pe_dgetM ho hi hs
theorem dnotinMK (hK : X.K = K) : OpR X (compareOp .NotIn) (rDNotInM K) := by subst hK; exact op_dnotinM
theorem get_listK (hK : X.K = K) : PGet X (rIxL K) := by subst hK; exact get_list
theorem gtTK (hK : X.K = K) (hu : X.A.units < cLine) : OpR X (compareOp .Gt) (rGtT K) := by subst hK; exact op_gtT hu
theorem mt_indexK (hK : X.K = K) : MtR X "list.index" (rIndex K) := by subst hK; exact mt_index
end
/-! ### // by a divisor of more than thirty bits -/
def CDivB (i j : Int) : Prop := 0 < j ∧ j < 2 ^ 256
theorem op_fdivB {X : Cx} : OpR X (binaryOp .FloorDiv) (rI CDivB fun i j => .int (i / j)) := opI fun i j _ _ _ _ _ hc q => by
  have h1 : (0 : Int) < j := hc.1
  have h2 : j < 2 ^ 256 := hc.2
  refine floordiv_int (by omega) (by rw [Int.fdiv_eq_ediv_of_nonneg i (by omega)]; exact q) (.inl (PyProof.noPylong_of_log2 ?_))
  have h3 : j.natAbs < 2 ^ 256 := by omega
  have h4 : j.natAbs.log2 < 256 := (Nat.log2_lt (by omega)).mpr h3
  omega
theorem dVne {a b : Int} (h : (!decide (V.int a = V.int b)) = true) : ¬ a = b := fun e => by
  rw [e] at h
  simp at h
theorem dVeq {a b : Int} (h : ¬ (!decide (V.int a = V.int b)) = true) : a = b := by
  by_cases e : a = b
  · exact e
  · exfalso
    apply h
    have : ¬ (V.int a = V.int b) := fun q => e (by injection q)
    rw [decide_eq_false this]
    rfl
theorem cut_to (l : List V) (a : Nat) : cutV l none (some (a : Int)) = l.take a := by
  unfold cutV
  rw [HT.sIx_nat, HT.sIx_none, Nat.sub_zero, List.drop_zero]
  by_cases h : a ≤ l.length
  · rw [show min a l.length = a by omega]
  · rw [List.take_of_length_le (by omega), List.take_of_length_le (by omega)]
theorem cut_from (l : List V) (a : Nat) : cutV l (some (a : Int)) none = l.drop a := by
  unfold cutV
  rw [HT.sIx_nat, HT.sIx_none]
  by_cases h : a ≤ l.length
  · rw [show min a l.length = a by omega, List.take_of_length_le (by rw [List.length_drop]; omega)]
  · rw [List.drop_of_length_le (by omega), List.drop_of_length_le (by omega), List.take_nil]
/-! ### a list of so many -/
theorem len0 {α : Type} {C : List α → Prop} : ∀ us : List α, us.length = 0 → C [] → C us
  | [], _, h => h
theorem len1 {α : Type} {C : List α → Prop} : ∀ us : List α, us.length = 1 → (∀ a, C [a]) → C us
  | [a], _, h => h a
theorem len2 {α : Type} {C : List α → Prop} : ∀ us : List α, us.length = 2 → (∀ a b, C [a, b]) → C us
  | [a, b], _, h => h a b
theorem len3 {α : Type} {C : List α → Prop} : ∀ us : List α, us.length = 3 → (∀ a b c, C [a, b, c]) → C us
  | [a, b, c], _, h => h a b c
theorem len4 {α : Type} {C : List α → Prop} : ∀ us : List α, us.length = 4 → (∀ a b c d, C [a, b, c, d]) → C us
  | [a, b, c, d], _, h => h a b c d
theorem len5 {α : Type} {C : List α → Prop} : ∀ us : List α, us.length = 5 → (∀ a b c d e, C [a, b, c, d, e]) → C us
  | [a, b, c, d, e], _, h => h a b c d e
end CP
end

section
set_option Elab.async false
set_option linter.all false
set_option maxRecDepth 100000
set_option genInjectivity false
set_option genSizeOf false
namespace CP
open PySem PySem.Spec PyProof.Rows L2
def top (i : Nat) : Stmt := PySem.Challenge.pw_cellpacks_s01_answers.main.body.getD i (.Pass ⟨0, 0, 0, 0⟩)
abbrev s_group_totals : Stmt := top 1
theorem sc_group_totals : FnScope ["cells", "size", "holds", "totals", "first", "i"] ["cells", "size", "holds"] (defScope s_group_totals) := ⟨rfl, rfl, rfl, by decide +kernel, rfl, by decide +kernel, by decide +kernel⟩
abbrev s_strength_of : Stmt := top 2
theorem sc_strength_of : FnScope ["totals"] ["totals"] (defScope s_strength_of) := ⟨rfl, rfl, rfl, by decide +kernel, rfl, by decide +kernel, by decide +kernel⟩
abbrev s_spread_of : Stmt := top 3
theorem sc_spread_of : FnScope ["totals"] ["totals"] (defScope s_spread_of) := ⟨rfl, rfl, rfl, by decide +kernel, rfl, by decide +kernel, by decide +kernel⟩
abbrev s_may_follow : Stmt := top 4
theorem sc_may_follow : FnScope ["dealt", "size", "cell"] ["dealt", "size", "cell"] (defScope s_may_follow) := ⟨rfl, rfl, rfl, by decide +kernel, rfl, by decide +kernel, by decide +kernel⟩
abbrev s_all_dealings : Stmt := top 5
theorem sc_all_dealings : FnScope ["loose", "groups", "size", "dealings", "place", "longer", "dealt", "cell"] ["loose", "groups", "size"] (defScope s_all_dealings) := ⟨rfl, rfl, rfl, by decide +kernel, rfl, by decide +kernel, by decide +kernel⟩
abbrev s_best_dealing : Stmt := top 6
theorem sc_best_dealing : FnScope ["loose", "groups", "size", "holds", "best", "best_worth", "cells", "totals", "worth"] ["loose", "groups", "size", "holds"] (defScope s_best_dealing) := ⟨rfl, rfl, rfl, by decide +kernel, rfl, by decide +kernel, by decide +kernel⟩
abbrev s_strength_by : Stmt := top 8
theorem sc_strength_by : FnScope ["cells", "size", "holds", "place", "other", "tried"] ["cells", "size", "holds", "place", "other"] (defScope s_strength_by) := ⟨rfl, rfl, rfl, by decide +kernel, rfl, by decide +kernel, by decide +kernel⟩
abbrev s_best_exchange : Stmt := top 9
theorem sc_best_exchange : FnScope ["cells", "size", "loose", "holds", "best", "strongest", "place", "own", "other", "strong"] ["cells", "size", "loose", "holds"] (defScope s_best_exchange) := ⟨rfl, rfl, rfl, by decide +kernel, rfl, by decide +kernel, by decide +kernel⟩
abbrev s_nearest_two : Stmt := top 10
theorem sc_nearest_two : FnScope ["loose", "holds", "nearest", "k", "one", "other", "apart"] ["loose", "holds"] (defScope s_nearest_two) := ⟨rfl, rfl, rfl, by decide +kernel, rfl, by decide +kernel, by decide +kernel⟩
abbrev s_common_divisor : Stmt := top 12
theorem sc_common_divisor : FnScope ["one", "other", "rest"] ["one", "other"] (defScope s_common_divisor) := ⟨rfl, rfl, rfl, by decide +kernel, rfl, by decide +kernel, by decide +kernel⟩
abbrev s_lowest_terms : Stmt := top 13
theorem sc_lowest_terms : FnScope ["upper", "lower", "divisor"] ["upper", "lower"] (defScope s_lowest_terms) := ⟨rfl, rfl, rfl, by decide +kernel, rfl, by decide +kernel, by decide +kernel⟩
abbrev s_add_fractions : Stmt := top 14
theorem sc_add_fractions : FnScope ["one", "other"] ["one", "other"] (defScope s_add_fractions) := ⟨rfl, rfl, rfl, by decide +kernel, rfl, by decide +kernel, by decide +kernel⟩
abbrev s_side_by_side : Stmt := top 15
theorem sc_side_by_side : FnScope ["resists", "parts", "resisted"] ["resists"] (defScope s_side_by_side) := ⟨rfl, rfl, rfl, by decide +kernel, rfl, by decide +kernel, by decide +kernel⟩
abbrev s_behind_one_another : Stmt := top 16
theorem sc_behind_one_another : FnScope ["resists", "size", "whole", "first"] ["resists", "size"] (defScope s_behind_one_another) := ⟨rfl, rfl, rfl, by decide +kernel, rfl, by decide +kernel, by decide +kernel⟩
abbrev s_Cell___init__ : Stmt := inClass (top 18) 0
theorem sc_Cell___init__ : FnScope ["self", "holds", "resists"] ["self", "holds", "resists"] (defScope s_Cell___init__) := ⟨rfl, rfl, rfl, by decide +kernel, rfl, by decide +kernel, by decide +kernel⟩
abbrev s_Pack___init__ : Stmt := inClass (top 19) 0
theorem sc_Pack___init__ : FnScope ["self", "size", "cells"] ["self", "size", "cells"] (defScope s_Pack___init__) := ⟨rfl, rfl, rfl, by decide +kernel, rfl, by decide +kernel, by decide +kernel⟩
abbrev s_Stock___init__ : Stmt := inClass (top 20) 0
theorem sc_Stock___init__ : FnScope ["self", "bounds"] ["self", "bounds"] (defScope s_Stock___init__) := ⟨rfl, rfl, rfl, by decide +kernel, rfl, by decide +kernel, by decide +kernel⟩
abbrev s_is_loose : Stmt := top 21
theorem sc_is_loose : FnScope ["cell"] ["cell"] (defScope s_is_loose) := ⟨rfl, rfl, rfl, by decide +kernel, rfl, by decide +kernel, by decide +kernel⟩
abbrev s_loose_cells : Stmt := top 22
theorem sc_loose_cells : FnScope ["stock", "i", "cell"] ["stock"] (defScope s_loose_cells) := ⟨rfl, rfl, rfl, by decide +kernel, rfl, by decide +kernel, by decide +kernel⟩
abbrev s_held : Stmt := top 23
theorem sc_held : FnScope ["stock", "cell"] ["stock"] (defScope s_held) := ⟨rfl, rfl, rfl, by decide +kernel, rfl, by decide +kernel, by decide +kernel⟩
abbrev s_grade_of : Stmt := top 24
theorem sc_grade_of : FnScope ["stock", "cell", "bound"] ["stock", "cell"] (defScope s_grade_of) := ⟨rfl, rfl, rfl, by decide +kernel, rfl, by decide +kernel, by decide +kernel⟩
abbrev s_free_number : Stmt := top 25
theorem sc_free_number : FnScope ["stock", "number"] ["stock"] (defScope s_free_number) := ⟨rfl, rfl, rfl, by decide +kernel, rfl, by decide +kernel, by decide +kernel⟩
abbrev s_add_pack : Stmt := top 26
theorem sc_add_pack : FnScope ["stock", "size", "cells", "number", "i", "cell"] ["stock", "size", "cells"] (defScope s_add_pack) := ⟨rfl, rfl, rfl, by decide +kernel, rfl, by decide +kernel, by decide +kernel⟩
abbrev s_exchange_cells : Stmt := top 27
theorem sc_exchange_cells : FnScope ["stock", "i", "j", "packed", "loose", "number", "pack"] ["stock", "i", "j"] (defScope s_exchange_cells) := ⟨rfl, rfl, rfl, by decide +kernel, rfl, by decide +kernel, by decide +kernel⟩
abbrev s_remove_pack : Stmt := top 28
theorem sc_remove_pack : FnScope ["stock", "number", "pack", "i", "cell"] ["stock", "number"] (defScope s_remove_pack) := ⟨rfl, rfl, rfl, by decide +kernel, rfl, by decide +kernel, by decide +kernel⟩
abbrev s_bounds_as_told : Stmt := top 47
theorem sc_bounds_as_told : FnScope ["bounds", "k", "bound"] ["bounds"] (defScope s_bounds_as_told) := ⟨rfl, rfl, rfl, by decide +kernel, rfl, by decide +kernel, by decide +kernel⟩
abbrev s_cell_as_told : Stmt := top 48
theorem sc_cell_as_told : FnScope ["holds", "resists"] ["holds", "resists"] (defScope s_cell_as_told) := ⟨rfl, rfl, rfl, by decide +kernel, rfl, by decide +kernel, by decide +kernel⟩
abbrev s_groups_as_told : Stmt := top 49
theorem sc_groups_as_told : FnScope ["groups", "size"] ["groups", "size"] (defScope s_groups_as_told) := ⟨rfl, rfl, rfl, by decide +kernel, rfl, by decide +kernel, by decide +kernel⟩
abbrev s_has_cell : Stmt := top 50
theorem sc_has_cell : FnScope ["stock", "i"] ["stock", "i"] (defScope s_has_cell) := ⟨rfl, rfl, rfl, by decide +kernel, rfl, by decide +kernel, by decide +kernel⟩
abbrev s_loose_refusal : Stmt := top 51
theorem sc_loose_refusal : FnScope ["stock", "i"] ["stock", "i"] (defScope s_loose_refusal) := ⟨rfl, rfl, rfl, by decide +kernel, rfl, by decide +kernel, by decide +kernel⟩
abbrev s_dealing_refusal : Stmt := top 52
theorem sc_dealing_refusal : FnScope ["stock", "groups", "size"] ["stock", "groups", "size"] (defScope s_dealing_refusal) := ⟨rfl, rfl, rfl, by decide +kernel, rfl, by decide +kernel, by decide +kernel⟩
abbrev s_totals_of : Stmt := top 53
theorem sc_totals_of : FnScope ["stock", "p", "pack"] ["stock", "p"] (defScope s_totals_of) := ⟨rfl, rfl, rfl, by decide +kernel, rfl, by decide +kernel, by decide +kernel⟩
abbrev s_best_of_loose : Stmt := top 54
theorem sc_best_of_loose : FnScope ["stock", "groups", "size"] ["stock", "groups", "size"] (defScope s_best_of_loose) := ⟨rfl, rfl, rfl, by decide +kernel, rfl, by decide +kernel, by decide +kernel⟩
abbrev s_add_cell : Stmt := top 55
theorem sc_add_cell : FnScope ["stock", "holds", "resists"] ["stock", "holds", "resists"] (defScope s_add_cell) := ⟨rfl, rfl, rfl, by decide +kernel, rfl, by decide +kernel, by decide +kernel⟩
abbrev s_retest_cell : Stmt := top 56
theorem sc_retest_cell : FnScope ["stock", "i", "holds", "resists", "refusal", "cell", "before"] ["stock", "i", "holds", "resists"] (defScope s_retest_cell) := ⟨rfl, rfl, rfl, by decide +kernel, rfl, by decide +kernel, by decide +kernel⟩
abbrev s_scrap_cell : Stmt := top 57
theorem sc_scrap_cell : FnScope ["stock", "i", "refusal", "cell"] ["stock", "i"] (defScope s_scrap_cell) := ⟨rfl, rfl, rfl, by decide +kernel, rfl, by decide +kernel, by decide +kernel⟩
abbrev s_grade_cell : Stmt := top 58
theorem sc_grade_cell : FnScope ["stock", "i"] ["stock", "i"] (defScope s_grade_cell) := ⟨rfl, rfl, rfl, by decide +kernel, rfl, by decide +kernel, by decide +kernel⟩
abbrev s_count_grades : Stmt := top 59
theorem sc_count_grades : FnScope ["stock", "counts", "grade", "i"] ["stock"] (defScope s_count_grades) := ⟨rfl, rfl, rfl, by decide +kernel, rfl, by decide +kernel, by decide +kernel⟩
abbrev s_match_cells : Stmt := top 60
theorem sc_match_cells : FnScope ["stock", "groups", "size", "refusal", "cells", "totals"] ["stock", "groups", "size"] (defScope s_match_cells) := ⟨rfl, rfl, rfl, by decide +kernel, rfl, by decide +kernel, by decide +kernel⟩
abbrev s_build_pack : Stmt := top 61
theorem sc_build_pack : FnScope ["stock", "groups", "size", "refusal"] ["stock", "groups", "size"] (defScope s_build_pack) := ⟨rfl, rfl, rfl, by decide +kernel, rfl, by decide +kernel, by decide +kernel⟩
abbrev s_could_build : Stmt := top 62
theorem sc_could_build : FnScope ["stock", "groups", "size", "asked", "refusal", "totals"] ["stock", "groups", "size", "asked"] (defScope s_could_build) := ⟨rfl, rfl, rfl, by decide +kernel, rfl, by decide +kernel, by decide +kernel⟩
abbrev s_tell_pack : Stmt := top 63
theorem sc_tell_pack : FnScope ["stock", "p", "pack"] ["stock", "p"] (defScope s_tell_pack) := ⟨rfl, rfl, rfl, by decide +kernel, rfl, by decide +kernel, by decide +kernel⟩
abbrev s_tell_strength : Stmt := top 64
theorem sc_tell_strength : FnScope ["stock", "p", "totals"] ["stock", "p"] (defScope s_tell_strength) := ⟨rfl, rfl, rfl, by decide +kernel, rfl, by decide +kernel, by decide +kernel⟩
abbrev s_tell_weak : Stmt := top 65
theorem sc_tell_weak : FnScope ["stock", "p", "totals", "weakest"] ["stock", "p"] (defScope s_tell_weak) := ⟨rfl, rfl, rfl, by decide +kernel, rfl, by decide +kernel, by decide +kernel⟩
abbrev s_tell_lacks : Stmt := top 66
theorem sc_tell_lacks : FnScope ["stock", "p", "totals", "strongest", "total"] ["stock", "p"] (defScope s_tell_lacks) := ⟨rfl, rfl, rfl, by decide +kernel, rfl, by decide +kernel, by decide +kernel⟩
abbrev s_tell_better : Stmt := top 67
theorem sc_tell_better : FnScope ["stock", "p", "pack", "best"] ["stock", "p"] (defScope s_tell_better) := ⟨rfl, rfl, rfl, by decide +kernel, rfl, by decide +kernel, by decide +kernel⟩
abbrev s_exchange : Stmt := top 68
theorem sc_exchange : FnScope ["stock", "i", "j"] ["stock", "i", "j"] (defScope s_exchange) := ⟨rfl, rfl, rfl, by decide +kernel, rfl, by decide +kernel, by decide +kernel⟩
abbrev s_tell_resists : Stmt := top 69
theorem sc_tell_resists : FnScope ["stock", "p", "pack", "whole", "i"] ["stock", "p"] (defScope s_tell_resists) := ⟨rfl, rfl, rfl, by decide +kernel, rfl, by decide +kernel, by decide +kernel⟩
abbrev s_tell_near : Stmt := top 70
theorem sc_tell_near : FnScope ["stock", "loose"] ["stock"] (defScope s_tell_near) := ⟨rfl, rfl, rfl, by decide +kernel, rfl, by decide +kernel, by decide +kernel⟩
abbrev s_tell_loose : Stmt := top 71
theorem sc_tell_loose : FnScope ["stock", "loose"] ["stock"] (defScope s_tell_loose) := ⟨rfl, rfl, rfl, by decide +kernel, rfl, by decide +kernel, by decide +kernel⟩
abbrev s_retire_pack : Stmt := top 72
theorem sc_retire_pack : FnScope ["stock", "p"] ["stock", "p"] (defScope s_retire_pack) := ⟨rfl, rfl, rfl, by decide +kernel, rfl, by decide +kernel, by decide +kernel⟩
abbrev s_look_at_cell : Stmt := top 73
theorem sc_look_at_cell : FnScope ["stock", "i", "cell", "pack_and_one"] ["stock", "i"] (defScope s_look_at_cell) := ⟨rfl, rfl, rfl, by decide +kernel, rfl, by decide +kernel, by decide +kernel⟩
abbrev s_tell_state : Stmt := top 74
theorem sc_tell_state : FnScope ["stock", "scrapped", "cell"] ["stock"] (defScope s_tell_state) := ⟨rfl, rfl, rfl, by decide +kernel, rfl, by decide +kernel, by decide +kernel⟩
abbrev s_split_calls : Stmt := top 76
theorem sc_split_calls : FnScope ["calls", "found", "at", "number", "many"] ["calls"] (defScope s_split_calls) := ⟨rfl, rfl, rfl, by decide +kernel, rfl, by decide +kernel, by decide +kernel⟩
abbrev s_answer_call : Stmt := top 77
theorem sc_answer_call : FnScope ["stock", "number", "handed", "action"] ["stock", "number", "handed"] (defScope s_answer_call) := ⟨rfl, rfl, rfl, by decide +kernel, rfl, by decide +kernel, by decide +kernel⟩
abbrev s_answers : Stmt := top 78
theorem sc_answers : FnScope ["calls", "given", "stock", "number", "handed", "answer"] ["calls"] (defScope s_answers) := ⟨rfl, rfl, rfl, by decide +kernel, rfl, by decide +kernel, by decide +kernel⟩
/-- where the top has laid its defs, classes and dicts -/
structure Ad where
  f_group_totals : Addr
  fd_group_totals : FuncData
  f_strength_of : Addr
  fd_strength_of : FuncData
  f_spread_of : Addr
  fd_spread_of : FuncData
  f_may_follow : Addr
  fd_may_follow : FuncData
  f_all_dealings : Addr
  fd_all_dealings : FuncData
  f_best_dealing : Addr
  fd_best_dealing : FuncData
  f_strength_by : Addr
  fd_strength_by : FuncData
  f_best_exchange : Addr
  fd_best_exchange : FuncData
  f_nearest_two : Addr
  fd_nearest_two : FuncData
  f_common_divisor : Addr
  fd_common_divisor : FuncData
  f_lowest_terms : Addr
  fd_lowest_terms : FuncData
  f_add_fractions : Addr
  fd_add_fractions : FuncData
  f_side_by_side : Addr
  fd_side_by_side : FuncData
  f_behind_one_another : Addr
  fd_behind_one_another : FuncData
  f_Cell___init__ : Addr
  fd_Cell___init__ : FuncData
  f_Pack___init__ : Addr
  fd_Pack___init__ : FuncData
  f_Stock___init__ : Addr
  fd_Stock___init__ : FuncData
  f_is_loose : Addr
  fd_is_loose : FuncData
  f_loose_cells : Addr
  fd_loose_cells : FuncData
  f_held : Addr
  fd_held : FuncData
  f_grade_of : Addr
  fd_grade_of : FuncData
  f_free_number : Addr
  fd_free_number : FuncData
  f_add_pack : Addr
  fd_add_pack : FuncData
  f_exchange_cells : Addr
  fd_exchange_cells : FuncData
  f_remove_pack : Addr
  fd_remove_pack : FuncData
  f_bounds_as_told : Addr
  fd_bounds_as_told : FuncData
  f_cell_as_told : Addr
  fd_cell_as_told : FuncData
  f_groups_as_told : Addr
  fd_groups_as_told : FuncData
  f_has_cell : Addr
  fd_has_cell : FuncData
  f_loose_refusal : Addr
  fd_loose_refusal : FuncData
  f_dealing_refusal : Addr
  fd_dealing_refusal : FuncData
  f_totals_of : Addr
  fd_totals_of : FuncData
  f_best_of_loose : Addr
  fd_best_of_loose : FuncData
  f_add_cell : Addr
  fd_add_cell : FuncData
  f_retest_cell : Addr
  fd_retest_cell : FuncData
  f_scrap_cell : Addr
  fd_scrap_cell : FuncData
  f_grade_cell : Addr
  fd_grade_cell : FuncData
  f_count_grades : Addr
  fd_count_grades : FuncData
  f_match_cells : Addr
  fd_match_cells : FuncData
  f_build_pack : Addr
  fd_build_pack : FuncData
  f_could_build : Addr
  fd_could_build : FuncData
  f_tell_pack : Addr
  fd_tell_pack : FuncData
  f_tell_strength : Addr
  fd_tell_strength : FuncData
  f_tell_weak : Addr
  fd_tell_weak : FuncData
  f_tell_lacks : Addr
  fd_tell_lacks : FuncData
  f_tell_better : Addr
  fd_tell_better : FuncData
  f_exchange : Addr
  fd_exchange : FuncData
  f_tell_resists : Addr
  fd_tell_resists : FuncData
  f_tell_near : Addr
  fd_tell_near : FuncData
  f_tell_loose : Addr
  fd_tell_loose : FuncData
  f_retire_pack : Addr
  fd_retire_pack : FuncData
  f_look_at_cell : Addr
  fd_look_at_cell : FuncData
  f_tell_state : Addr
  fd_tell_state : FuncData
  f_split_calls : Addr
  fd_split_calls : FuncData
  f_answer_call : Addr
  fd_answer_call : FuncData
  f_answers : Addr
  fd_answers : FuncData
  c_Cell : Addr
  c_Pack : Addr
  c_Stock : Addr
  d_HANDED : Addr
  d_ACTIONS : Addr
structure Txt (K : PySem.W.Frag) (mg : Str → Option Value) (A : Ad) : Prop where
  F_group_totals : Fun K "group_totals" "group_totals" s_group_totals A.f_group_totals A.fd_group_totals
  b_group_totals : Binds K A.fd_group_totals ["cells", "size", "holds"] []
  m_group_totals : mg "group_totals" = some (.ref A.f_group_totals)
  F_strength_of : Fun K "strength_of" "strength_of" s_strength_of A.f_strength_of A.fd_strength_of
  b_strength_of : Binds K A.fd_strength_of ["totals"] []
  m_strength_of : mg "strength_of" = some (.ref A.f_strength_of)
  F_spread_of : Fun K "spread_of" "spread_of" s_spread_of A.f_spread_of A.fd_spread_of
  b_spread_of : Binds K A.fd_spread_of ["totals"] []
  m_spread_of : mg "spread_of" = some (.ref A.f_spread_of)
  F_may_follow : Fun K "may_follow" "may_follow" s_may_follow A.f_may_follow A.fd_may_follow
  b_may_follow : Binds K A.fd_may_follow ["dealt", "size", "cell"] []
  m_may_follow : mg "may_follow" = some (.ref A.f_may_follow)
  F_all_dealings : Fun K "all_dealings" "all_dealings" s_all_dealings A.f_all_dealings A.fd_all_dealings
  b_all_dealings : Binds K A.fd_all_dealings ["loose", "groups", "size"] []
  m_all_dealings : mg "all_dealings" = some (.ref A.f_all_dealings)
  F_best_dealing : Fun K "best_dealing" "best_dealing" s_best_dealing A.f_best_dealing A.fd_best_dealing
  b_best_dealing : Binds K A.fd_best_dealing ["loose", "groups", "size", "holds"] []
  m_best_dealing : mg "best_dealing" = some (.ref A.f_best_dealing)
  F_strength_by : Fun K "strength_by" "strength_by" s_strength_by A.f_strength_by A.fd_strength_by
  b_strength_by : Binds K A.fd_strength_by ["cells", "size", "holds", "place", "other"] []
  m_strength_by : mg "strength_by" = some (.ref A.f_strength_by)
  F_best_exchange : Fun K "best_exchange" "best_exchange" s_best_exchange A.f_best_exchange A.fd_best_exchange
  b_best_exchange : Binds K A.fd_best_exchange ["cells", "size", "loose", "holds"] []
  m_best_exchange : mg "best_exchange" = some (.ref A.f_best_exchange)
  F_nearest_two : Fun K "nearest_two" "nearest_two" s_nearest_two A.f_nearest_two A.fd_nearest_two
  b_nearest_two : Binds K A.fd_nearest_two ["loose", "holds"] []
  m_nearest_two : mg "nearest_two" = some (.ref A.f_nearest_two)
  F_common_divisor : Fun K "common_divisor" "common_divisor" s_common_divisor A.f_common_divisor A.fd_common_divisor
  b_common_divisor : Binds K A.fd_common_divisor ["one", "other"] []
  m_common_divisor : mg "common_divisor" = some (.ref A.f_common_divisor)
  F_lowest_terms : Fun K "lowest_terms" "lowest_terms" s_lowest_terms A.f_lowest_terms A.fd_lowest_terms
  b_lowest_terms : Binds K A.fd_lowest_terms ["upper", "lower"] []
  m_lowest_terms : mg "lowest_terms" = some (.ref A.f_lowest_terms)
  F_add_fractions : Fun K "add_fractions" "add_fractions" s_add_fractions A.f_add_fractions A.fd_add_fractions
  b_add_fractions : Binds K A.fd_add_fractions ["one", "other"] []
  m_add_fractions : mg "add_fractions" = some (.ref A.f_add_fractions)
  F_side_by_side : Fun K "side_by_side" "side_by_side" s_side_by_side A.f_side_by_side A.fd_side_by_side
  b_side_by_side : Binds K A.fd_side_by_side ["resists"] []
  m_side_by_side : mg "side_by_side" = some (.ref A.f_side_by_side)
  F_behind_one_another : Fun K "behind_one_another" "behind_one_another" s_behind_one_another A.f_behind_one_another A.fd_behind_one_another
  b_behind_one_another : Binds K A.fd_behind_one_another ["resists", "size"] []
  m_behind_one_another : mg "behind_one_another" = some (.ref A.f_behind_one_another)
  F_Cell___init__ : Fun K "__init__" "Cell.__init__" s_Cell___init__ A.f_Cell___init__ A.fd_Cell___init__
  b_Cell___init__ : Binds K A.fd_Cell___init__ ["self", "holds", "resists"] []
  F_Pack___init__ : Fun K "__init__" "Pack.__init__" s_Pack___init__ A.f_Pack___init__ A.fd_Pack___init__
  b_Pack___init__ : Binds K A.fd_Pack___init__ ["self", "size", "cells"] []
  F_Stock___init__ : Fun K "__init__" "Stock.__init__" s_Stock___init__ A.f_Stock___init__ A.fd_Stock___init__
  b_Stock___init__ : Binds K A.fd_Stock___init__ ["self", "bounds"] []
  F_is_loose : Fun K "is_loose" "is_loose" s_is_loose A.f_is_loose A.fd_is_loose
  b_is_loose : Binds K A.fd_is_loose ["cell"] []
  m_is_loose : mg "is_loose" = some (.ref A.f_is_loose)
  F_loose_cells : Fun K "loose_cells" "loose_cells" s_loose_cells A.f_loose_cells A.fd_loose_cells
  b_loose_cells : Binds K A.fd_loose_cells ["stock"] []
  m_loose_cells : mg "loose_cells" = some (.ref A.f_loose_cells)
  F_held : Fun K "held" "held" s_held A.f_held A.fd_held
  b_held : Binds K A.fd_held ["stock"] []
  m_held : mg "held" = some (.ref A.f_held)
  F_grade_of : Fun K "grade_of" "grade_of" s_grade_of A.f_grade_of A.fd_grade_of
  b_grade_of : Binds K A.fd_grade_of ["stock", "cell"] []
  m_grade_of : mg "grade_of" = some (.ref A.f_grade_of)
  F_free_number : Fun K "free_number" "free_number" s_free_number A.f_free_number A.fd_free_number
  b_free_number : Binds K A.fd_free_number ["stock"] []
  m_free_number : mg "free_number" = some (.ref A.f_free_number)
  F_add_pack : Fun K "add_pack" "add_pack" s_add_pack A.f_add_pack A.fd_add_pack
  b_add_pack : Binds K A.fd_add_pack ["stock", "size", "cells"] []
  m_add_pack : mg "add_pack" = some (.ref A.f_add_pack)
  F_exchange_cells : Fun K "exchange_cells" "exchange_cells" s_exchange_cells A.f_exchange_cells A.fd_exchange_cells
  b_exchange_cells : Binds K A.fd_exchange_cells ["stock", "i", "j"] []
  m_exchange_cells : mg "exchange_cells" = some (.ref A.f_exchange_cells)
  F_remove_pack : Fun K "remove_pack" "remove_pack" s_remove_pack A.f_remove_pack A.fd_remove_pack
  b_remove_pack : Binds K A.fd_remove_pack ["stock", "number"] []
  m_remove_pack : mg "remove_pack" = some (.ref A.f_remove_pack)
  F_bounds_as_told : Fun K "bounds_as_told" "bounds_as_told" s_bounds_as_told A.f_bounds_as_told A.fd_bounds_as_told
  b_bounds_as_told : Binds K A.fd_bounds_as_told ["bounds"] []
  m_bounds_as_told : mg "bounds_as_told" = some (.ref A.f_bounds_as_told)
  F_cell_as_told : Fun K "cell_as_told" "cell_as_told" s_cell_as_told A.f_cell_as_told A.fd_cell_as_told
  b_cell_as_told : Binds K A.fd_cell_as_told ["holds", "resists"] []
  m_cell_as_told : mg "cell_as_told" = some (.ref A.f_cell_as_told)
  F_groups_as_told : Fun K "groups_as_told" "groups_as_told" s_groups_as_told A.f_groups_as_told A.fd_groups_as_told
  b_groups_as_told : Binds K A.fd_groups_as_told ["groups", "size"] []
  m_groups_as_told : mg "groups_as_told" = some (.ref A.f_groups_as_told)
  F_has_cell : Fun K "has_cell" "has_cell" s_has_cell A.f_has_cell A.fd_has_cell
  b_has_cell : Binds K A.fd_has_cell ["stock", "i"] []
  m_has_cell : mg "has_cell" = some (.ref A.f_has_cell)
  F_loose_refusal : Fun K "loose_refusal" "loose_refusal" s_loose_refusal A.f_loose_refusal A.fd_loose_refusal
  b_loose_refusal : Binds K A.fd_loose_refusal ["stock", "i"] []
  m_loose_refusal : mg "loose_refusal" = some (.ref A.f_loose_refusal)
  F_dealing_refusal : Fun K "dealing_refusal" "dealing_refusal" s_dealing_refusal A.f_dealing_refusal A.fd_dealing_refusal
  b_dealing_refusal : Binds K A.fd_dealing_refusal ["stock", "groups", "size"] []
  m_dealing_refusal : mg "dealing_refusal" = some (.ref A.f_dealing_refusal)
  F_totals_of : Fun K "totals_of" "totals_of" s_totals_of A.f_totals_of A.fd_totals_of
  b_totals_of : Binds K A.fd_totals_of ["stock", "p"] []
  m_totals_of : mg "totals_of" = some (.ref A.f_totals_of)
  F_best_of_loose : Fun K "best_of_loose" "best_of_loose" s_best_of_loose A.f_best_of_loose A.fd_best_of_loose
  b_best_of_loose : Binds K A.fd_best_of_loose ["stock", "groups", "size"] []
  m_best_of_loose : mg "best_of_loose" = some (.ref A.f_best_of_loose)
  F_add_cell : Fun K "add_cell" "add_cell" s_add_cell A.f_add_cell A.fd_add_cell
  b_add_cell : Binds K A.fd_add_cell ["stock", "holds", "resists"] []
  m_add_cell : mg "add_cell" = some (.ref A.f_add_cell)
  F_retest_cell : Fun K "retest_cell" "retest_cell" s_retest_cell A.f_retest_cell A.fd_retest_cell
  b_retest_cell : Binds K A.fd_retest_cell ["stock", "i", "holds", "resists"] []
  m_retest_cell : mg "retest_cell" = some (.ref A.f_retest_cell)
  F_scrap_cell : Fun K "scrap_cell" "scrap_cell" s_scrap_cell A.f_scrap_cell A.fd_scrap_cell
  b_scrap_cell : Binds K A.fd_scrap_cell ["stock", "i"] []
  m_scrap_cell : mg "scrap_cell" = some (.ref A.f_scrap_cell)
  F_grade_cell : Fun K "grade_cell" "grade_cell" s_grade_cell A.f_grade_cell A.fd_grade_cell
  b_grade_cell : Binds K A.fd_grade_cell ["stock", "i"] []
  m_grade_cell : mg "grade_cell" = some (.ref A.f_grade_cell)
  F_count_grades : Fun K "count_grades" "count_grades" s_count_grades A.f_count_grades A.fd_count_grades
  b_count_grades : Binds K A.fd_count_grades ["stock"] []
  m_count_grades : mg "count_grades" = some (.ref A.f_count_grades)
  F_match_cells : Fun K "match_cells" "match_cells" s_match_cells A.f_match_cells A.fd_match_cells
  b_match_cells : Binds K A.fd_match_cells ["stock", "groups", "size"] []
  m_match_cells : mg "match_cells" = some (.ref A.f_match_cells)
  F_build_pack : Fun K "build_pack" "build_pack" s_build_pack A.f_build_pack A.fd_build_pack
  b_build_pack : Binds K A.fd_build_pack ["stock", "groups", "size"] []
  m_build_pack : mg "build_pack" = some (.ref A.f_build_pack)
  F_could_build : Fun K "could_build" "could_build" s_could_build A.f_could_build A.fd_could_build
  b_could_build : Binds K A.fd_could_build ["stock", "groups", "size", "asked"] []
  m_could_build : mg "could_build" = some (.ref A.f_could_build)
  F_tell_pack : Fun K "tell_pack" "tell_pack" s_tell_pack A.f_tell_pack A.fd_tell_pack
  b_tell_pack : Binds K A.fd_tell_pack ["stock", "p"] []
  m_tell_pack : mg "tell_pack" = some (.ref A.f_tell_pack)
  F_tell_strength : Fun K "tell_strength" "tell_strength" s_tell_strength A.f_tell_strength A.fd_tell_strength
  b_tell_strength : Binds K A.fd_tell_strength ["stock", "p"] []
  m_tell_strength : mg "tell_strength" = some (.ref A.f_tell_strength)
  F_tell_weak : Fun K "tell_weak" "tell_weak" s_tell_weak A.f_tell_weak A.fd_tell_weak
  b_tell_weak : Binds K A.fd_tell_weak ["stock", "p"] []
  m_tell_weak : mg "tell_weak" = some (.ref A.f_tell_weak)
  F_tell_lacks : Fun K "tell_lacks" "tell_lacks" s_tell_lacks A.f_tell_lacks A.fd_tell_lacks
  b_tell_lacks : Binds K A.fd_tell_lacks ["stock", "p"] []
  m_tell_lacks : mg "tell_lacks" = some (.ref A.f_tell_lacks)
  F_tell_better : Fun K "tell_better" "tell_better" s_tell_better A.f_tell_better A.fd_tell_better
  b_tell_better : Binds K A.fd_tell_better ["stock", "p"] []
  m_tell_better : mg "tell_better" = some (.ref A.f_tell_better)
  F_exchange : Fun K "exchange" "exchange" s_exchange A.f_exchange A.fd_exchange
  b_exchange : Binds K A.fd_exchange ["stock", "i", "j"] []
  m_exchange : mg "exchange" = some (.ref A.f_exchange)
  F_tell_resists : Fun K "tell_resists" "tell_resists" s_tell_resists A.f_tell_resists A.fd_tell_resists
  b_tell_resists : Binds K A.fd_tell_resists ["stock", "p"] []
  m_tell_resists : mg "tell_resists" = some (.ref A.f_tell_resists)
  F_tell_near : Fun K "tell_near" "tell_near" s_tell_near A.f_tell_near A.fd_tell_near
  b_tell_near : Binds K A.fd_tell_near ["stock"] []
  m_tell_near : mg "tell_near" = some (.ref A.f_tell_near)
  F_tell_loose : Fun K "tell_loose" "tell_loose" s_tell_loose A.f_tell_loose A.fd_tell_loose
  b_tell_loose : Binds K A.fd_tell_loose ["stock"] []
  m_tell_loose : mg "tell_loose" = some (.ref A.f_tell_loose)
  F_retire_pack : Fun K "retire_pack" "retire_pack" s_retire_pack A.f_retire_pack A.fd_retire_pack
  b_retire_pack : Binds K A.fd_retire_pack ["stock", "p"] []
  m_retire_pack : mg "retire_pack" = some (.ref A.f_retire_pack)
  F_look_at_cell : Fun K "look_at_cell" "look_at_cell" s_look_at_cell A.f_look_at_cell A.fd_look_at_cell
  b_look_at_cell : Binds K A.fd_look_at_cell ["stock", "i"] []
  m_look_at_cell : mg "look_at_cell" = some (.ref A.f_look_at_cell)
  F_tell_state : Fun K "tell_state" "tell_state" s_tell_state A.f_tell_state A.fd_tell_state
  b_tell_state : Binds K A.fd_tell_state ["stock"] []
  m_tell_state : mg "tell_state" = some (.ref A.f_tell_state)
  F_split_calls : Fun K "split_calls" "split_calls" s_split_calls A.f_split_calls A.fd_split_calls
  b_split_calls : Binds K A.fd_split_calls ["calls"] []
  m_split_calls : mg "split_calls" = some (.ref A.f_split_calls)
  F_answer_call : Fun K "answer_call" "answer_call" s_answer_call A.f_answer_call A.fd_answer_call
  b_answer_call : Binds K A.fd_answer_call ["stock", "number", "handed"] []
  m_answer_call : mg "answer_call" = some (.ref A.f_answer_call)
  F_answers : Fun K "answers" "answers" s_answers A.f_answers A.fd_answers
  b_answers : Binds K A.fd_answers ["calls"] []
  m_answers : mg "answers" = some (.ref A.f_answers)
  m_Cell : mg "Cell" = some (.ref A.c_Cell)
  M_Cell : Mk K A.c_Cell A.f_Cell___init__
  C_Cell : Cls K A.c_Cell
  n_Cell_holds : NoAttr K A.c_Cell "holds"
  n_Cell_resists : NoAttr K A.c_Cell "resists"
  n_Cell_pack : NoAttr K A.c_Cell "pack"
  n_Cell_scrap : NoAttr K A.c_Cell "scrap"
  m_Pack : mg "Pack" = some (.ref A.c_Pack)
  M_Pack : Mk K A.c_Pack A.f_Pack___init__
  C_Pack : Cls K A.c_Pack
  n_Pack_size : NoAttr K A.c_Pack "size"
  n_Pack_cells : NoAttr K A.c_Pack "cells"
  m_Stock : mg "Stock" = some (.ref A.c_Stock)
  M_Stock : Mk K A.c_Stock A.f_Stock___init__
  C_Stock : Cls K A.c_Stock
  n_Stock_bounds : NoAttr K A.c_Stock "bounds"
  n_Stock_cells : NoAttr K A.c_Stock "cells"
  n_Stock_packs : NoAttr K A.c_Stock "packs"
  x_Cell_Pack : A.c_Cell ≠ A.c_Pack
  x_Cell_Stock : A.c_Cell ≠ A.c_Stock
  x_Pack_Stock : A.c_Pack ≠ A.c_Stock
  m_HANDED : mg "HANDED" = some (.ref A.d_HANDED)
  D_HANDED : KD K A.d_HANDED [(Sum.inl 1, .int 2), (Sum.inl 2, .int 3), (Sum.inl 3, .int 1), (Sum.inl 4, .int 1), (Sum.inl 5, .int 0), (Sum.inl 6, .int 2), (Sum.inl 7, .int 2), (Sum.inl 8, .int 3), (Sum.inl 9, .int 1), (Sum.inl 10, .int 1), (Sum.inl 11, .int 1), (Sum.inl 12, .int 1), (Sum.inl 13, .int 1), (Sum.inl 14, .int 2), (Sum.inl 15, .int 1), (Sum.inl 16, .int 0), (Sum.inl 17, .int 0), (Sum.inl 18, .int 1), (Sum.inl 19, .int 1), (Sum.inl 20, .int 0)]
  m_ACTIONS : mg "ACTIONS" = some (.ref A.d_ACTIONS)
  D_ACTIONS : KD K A.d_ACTIONS [(Sum.inl 1, .ref A.f_add_cell), (Sum.inl 2, .ref A.f_retest_cell), (Sum.inl 3, .ref A.f_scrap_cell), (Sum.inl 4, .ref A.f_grade_cell), (Sum.inl 5, .ref A.f_count_grades), (Sum.inl 6, .ref A.f_match_cells), (Sum.inl 7, .ref A.f_build_pack), (Sum.inl 8, .ref A.f_could_build), (Sum.inl 9, .ref A.f_tell_pack), (Sum.inl 10, .ref A.f_tell_strength), (Sum.inl 11, .ref A.f_tell_weak), (Sum.inl 12, .ref A.f_tell_lacks), (Sum.inl 13, .ref A.f_tell_better), (Sum.inl 14, .ref A.f_exchange), (Sum.inl 15, .ref A.f_tell_resists), (Sum.inl 16, .ref A.f_tell_near), (Sum.inl 17, .ref A.f_tell_loose), (Sum.inl 18, .ref A.f_retire_pack), (Sum.inl 19, .ref A.f_look_at_cell), (Sum.inl 20, .ref A.f_tell_state)]
  m_MOST_BOUNDS : ∃ t, mg "MOST_BOUNDS" = some (.int (6) t)
  m_MOST_CELLS : ∃ t, mg "MOST_CELLS" = some (.int (24) t)
  m_MOST_HELD : ∃ t, mg "MOST_HELD" = some (.int (10000) t)
  m_MOST_RESISTED : ∃ t, mg "MOST_RESISTED" = some (.int (100) t)
  m_MOST_GROUPS : ∃ t, mg "MOST_GROUPS" = some (.int (4) t)
  m_MOST_IN_GROUP : ∃ t, mg "MOST_IN_GROUP" = some (.int (4) t)
  m_MOST_DEALT : ∃ t, mg "MOST_DEALT" = some (.int (8) t)
  m_NO_SUCH : ∃ t, mg "NO_SUCH" = some (.int (-2) t)
  m_NOT_PACKED : ∃ t, mg "NOT_PACKED" = some (.int (-6) t)
  m_NOT_STARTED : ∃ t, mg "NOT_STARTED" = some (.int (-11) t)
  m_TOO_FEW : ∃ t, mg "TOO_FEW" = some (.int (-12) t)
  m_NOT_LOOSE : ∃ t, mg "NOT_LOOSE" = some (.int (-16) t)
  m_NOT_AS_TOLD : ∃ t, mg "NOT_AS_TOLD" = some (.int (-22) t)
  m_FULL : ∃ t, mg "FULL" = some (.int (-28) t)
  m_NO_BETTER : ∃ t, mg "NO_BETTER" = some (.int (-33) t)
  m_START : ∃ t, mg "START" = some (.int (0) t)
  b_abs : mg "abs" = none
  b_enumerate : mg "enumerate" = none
  b_len : mg "len" = none
  b_max : mg "max" = none
  b_min : mg "min" = none
  b_range : mg "range" = none
  b_sum : mg "sum" = none
end CP
end

section
set_option Elab.async false
set_option linter.all false
set_option maxRecDepth 100000
set_option maxHeartbeats 1000000
namespace CP
open PySem PySem.Spec PyProof.Rows L2
section
variable {P : Program} {w : World} {K : PySem.W.Frag} {mg : Str → Option Value} {base : Heap} {A : Ad}
theorem ints_of_nat {l : List Nat} {m : Int} (h : m ∈ l.map fun (n : Nat) => (n : Int)) : ∃ n, n ∈ l ∧ m = (n : Int) := by
  obtain ⟨n, hn, e⟩ := List.mem_map.mp h
  exact ⟨n, hn, e.symm⟩
theorem dV {a b : Int} (h : decide (V.int a = V.int b) = true) : a = b := by
  have := of_decide_eq_true h
  injection this
theorem dVn {a b : Int} (h : ¬ decide (V.int a = V.int b) = true) : ¬ a = b := fun e => h (by rw [e]; exact decide_eq_true rfl)
def spMin (K : PySem.W.Frag) : Sp := fun vs H Q _ => ∃ (a : Addr) (ts : List Nat), vs = [.ref a] ∧ SqL K H a (nvs ts) ∧ ts ≠ [] ∧ Q (nv (Kqb4.least ts)) H
theorem ok_strength_of (T : Txt K mg A) : FnOk P w K mg base CX0 1 A.f_strength_of A.fd_strength_of ["totals"] (spMin K) := by
  refine T.F_strength_of.ok sc_strength_of (fun vs H Q E h => ?_) (fun cdv A outer s H vs Q E hr h => ?_)
  · obtain ⟨a, ts, rfl, _⟩ := h
    rfl
  · obtain ⟨a, ts, rfl, hs, hn, k⟩ := h
    refine ⟨_, (pss_one (ps_ret (pe_callB (cr_min rfl) (by rfl) T.b_min boot_min (pa_cons (pv 0) pa_nil)))), ?_⟩
    refine ⟨_, rfl, a, _, rfl, hs, by simpa using List.length_pos_iff.mpr hn, fun m hm hle => ?_⟩
    obtain ⟨n, hn, rfl⟩ := ints_of_nat hm
    rw [least_eq hn fun y hy => by have := hle (y : Int) (List.mem_map.mpr ⟨y, hy, rfl⟩); omega]
    exact k
def spSpread (K : PySem.W.Frag) : Sp := fun vs H Q _ => ∃ (a : Addr) (ts : List Nat), vs = [.ref a] ∧ SqL K H a (nvs ts) ∧ ts ≠ [] ∧ Q (nv (Kqb4.greatest ts - Kqb4.least ts)) H
theorem ok_spread_of (T : Txt K mg A) : FnOk P w K mg base CX0 1 A.f_spread_of A.fd_spread_of ["totals"] (spSpread K) := by
  refine T.F_spread_of.ok sc_spread_of (fun vs H Q E h => ?_) (fun cdv A outer s H vs Q E hr h => ?_)
  · obtain ⟨a, ts, rfl, _⟩ := h
    rfl
  · obtain ⟨a, ts, rfl, hs, hn, k⟩ := h
    refine ⟨_, (pss_one (ps_ret (pe_op op_sub (pe_callB (cr_max rfl) (by rfl) T.b_max boot_max (pa_cons (pv 0) pa_nil)) (pe_callB (cr_min rfl) (by rfl) T.b_min boot_min (pa_cons (pv 0) pa_nil))))), ?_⟩
    have hl : 0 < (ts.map fun (n : Nat) => (n : Int)).length := by simpa using List.length_pos_iff.mpr hn
    refine ⟨_, rfl, a, _, rfl, hs, hl, fun m hm hle => ⟨_, rfl, a, _, rfl, hs, hl, fun m' hm' hle' => ⟨_, _, rfl, rfl, ?_⟩⟩⟩
    obtain ⟨x, hx, rfl⟩ := ints_of_nat hm
    obtain ⟨y, hy, rfl⟩ := ints_of_nat hm'
    have e1 := greatest_eq hx fun z hz => by have := hle (z : Int) (List.mem_map.mpr ⟨z, hz, rfl⟩); omega
    have e2 := least_eq hy fun z hz => by have := hle' (z : Int) (List.mem_map.mpr ⟨z, hz, rfl⟩); omega
    have e3 := least_le_greatest ts hn
    have e : (x : Int) - (y : Int) = ((Kqb4.greatest ts - Kqb4.least ts : Nat) : Int) := by omega
    have k' : Q (V.int ((x : Int) - (y : Int))) H := by rw [e]; exact k
    exact k'
def spMay (K : PySem.W.Frag) : Sp := fun vs H Q _ => ∃ (a : Addr) (d : List Nat) (g c : Nat), vs = [.ref a, nv g, nv c] ∧ SqL K H a (nvs d) ∧ 0 < g ∧ Q (.bl (mayF g d c)) H
theorem ok_may_follow (T : Txt K mg A) : FnOk P w K mg base CX0 1 A.f_may_follow A.fd_may_follow ["dealt", "size", "cell"] (spMay K) := by
  refine T.F_may_follow.ok sc_may_follow (fun vs H Q E h => ?_) (fun cdv A outer s H vs Q E hr h => ?_)
  · obtain ⟨a, d, g, c, rfl, _⟩ := h
    rfl
  · obtain ⟨a, d, g, c, rfl, hs, hg, k⟩ := h
    refine ⟨_, (pss_cons (ps_if (pt_cmpR op_in_seq (pv 2) (pv 0) (by with_unfolding_all rfl)) (pss_one (ps_ret pe_bl)) pss_nil)
      (pss_cons (ps_if (pt_cmpR op_eq (pe_callB call_len_seq (by rfl) T.b_len PySem.boot_len (pa_cons (pv 0) pa_nil)) pe_int (nomark _)) (pss_one (ps_ret pe_bl)) pss_nil)
      (pss_cons (ps_if (pt_cmpR op_eq (pe_op op_mod (pe_callB call_len_seq (by rfl) T.b_len PySem.boot_len (pa_cons (pv 0) pa_nil)) (pv 1)) pe_int (nomark _)) (pss_one (ps_ret (pe_cmpR op_gt (pv 2) (pe_ix ix_list (pv 0) (pe_op op_sub (pe_callB call_len_seq (by rfl) T.b_len PySem.boot_len (pa_cons (pv 0) pa_nil)) (pv 1)) (fun _ _ => rfl)) (nomark _)))) pss_nil)
      (pss_one (ps_ret (pe_cmpR op_gt (pv 2) (pe_ix ix_list (pv 0) (pe_op op_sub (pe_callB call_len_seq (by rfl) T.b_len PySem.boot_len (pa_cons (pv 0) pa_nil)) pe_int) (fun _ _ => rfl)) (nomark _))))))), ?_⟩
    refine ⟨_, rfl, _, rfl, a, _, rfl, .inl hs, rfl, nvs_flat d, _, rfl, ?_⟩
    show if inV (nv c) (nvs d) = true then _ else _
    rw [nvs_in]
    unfold mayF at k
    refine ite2 (fun h1 => ?_) (fun h1 => ?_)
    · rw [if_pos h1] at k
      exact k
    · rw [if_neg h1] at k
      refine ⟨_, rfl, a, _, rfl, .inl hs, rfl, _, rfl, ?_⟩
      rw [nvs_len]
      refine ite2 (fun h2 => ?_) (fun h2 => ?_)
      · have h2 : (d.length : Int) = 0 := dV h2
        rw [if_pos (by omega)] at k
        exact k
      · have h2 : ¬ (d.length : Int) = 0 := dVn h2
        have h2' : 0 < d.length := by omega
        rw [if_neg (by omega)] at k
        refine ⟨_, rfl, a, _, rfl, .inl hs, _, rfl, _, _, rfl, rfl, (by show (0 : Int) < (g : Int); omega), rfl, _, rfl, ?_⟩
        rw [nvs_len]
        refine ite2 (fun h3 => ?_) (fun h3 => ?_)
        · have h3 : (d.length : Int) % (g : Int) = 0 := dV h3
          have h3' : d.length % g = 0 := by omega
          rw [if_pos h3'] at k
          have hle : g ≤ d.length := Nat.le_of_dvd h2' (Nat.dvd_of_mod_eq_zero h3')
          have hat : d[d.length - g]? = some (d.getD (d.length - g) 0) := by rw [List.getD_eq_getElem?_getD, List.getElem?_eq_getElem (by omega)]; rfl
          refine ⟨_, rfl, _, rfl, _, rfl, a, _, rfl, .inl hs, _, rfl, _, _, rfl, rfl, a, _, _, _, rfl, rfl, hs, at_of (j := d.length - g) (by rw [nvs_len]; omega) (nvs_at hat), _, _, rfl, rfl, ?_⟩
          have k' : Q (.bl (decide (((d.getD (d.length - g) 0 : Nat) : Int) < (c : Int)))) H := by
            rw [show decide (((d.getD (d.length - g) 0 : Nat) : Int) < (c : Int)) = decide (d.getD (d.length - g) 0 < c) from decide_eq_decide.mpr (by omega)]
            exact k
          exact k'
        · have h3 : ¬ (d.length : Int) % (g : Int) = 0 := dVn h3
          rw [if_neg (by omega)] at k
          have hat : d[d.length - 1]? = some (d.getD (d.length - 1) 0) := by rw [List.getD_eq_getElem?_getD, List.getElem?_eq_getElem (by omega)]; rfl
          refine ⟨_, rfl, _, rfl, _, rfl, a, _, rfl, .inl hs, _, _, rfl, rfl, a, _, _, _, rfl, rfl, hs, at_of (j := d.length - 1) (by rw [nvs_len]; omega) (nvs_at hat), _, _, rfl, rfl, ?_⟩
          have k' : Q (.bl (decide (((d.getD (d.length - 1) 0 : Nat) : Int) < (c : Int)))) H := by
            rw [show decide (((d.getD (d.length - 1) 0 : Nat) : Int) < (c : Int)) = decide (d.getD (d.length - 1) 0 < c) from decide_eq_decide.mpr (by omega)]
            exact k
          exact k'
end
end CP
end

section
set_option Elab.async false
set_option linter.all false
set_option maxRecDepth 100000
set_option maxHeartbeats 1000000
namespace CP
open PySem PySem.Spec PyProof.Rows L2
section
variable {P : Program} {w : World} {K : PySem.W.Frag} {mg : Str → Option Value} {base : Heap} {A : Ad}
theorem rgC_up {len g : Nat} (hg : 0 < g) (h1 : g < 1000000) (h2 : len < 1000000000) : RgC 0 (len : Int) (g : Int) ((len + g - 1) / g) := by
  have hs : Builtin.Range.rangeSize 0 (len : Int) (g : Int) = (((len + g - 1) / g : Nat) : Int) := by
    rw [rangeSize_pos (by omega) (by omega)]
    have e : (len : Int) + (g : Int) - 1 = ((len + g - 1 : Nat) : Int) := by omega
    rw [e]
    rfl
  have hb : (len + g - 1) / g ≤ len + g - 1 := Nat.div_le_self _ _
  have hm : (len + g - 1) / g * g ≤ len + g - 1 := Nat.div_mul_le_self _ _
  refine ⟨by omega, by omega, ?_, hs⟩
  unfold Builtin.Range.small
  rw [hs]
  simp only [Builtin.Range.rangeFitsLong, Bool.and_eq_true, Bool.or_eq_true, decide_eq_true_eq, beq_iff_eq]
  have hz := Int.natCast_nonneg ((len + g - 1) / g)
  have hz2 : (((len + g - 1) / g : Nat) : Int) ≤ ((len + g - 1 : Nat) : Int) := Int.ofNat_le.mpr hb
  generalize (((len + g - 1) / g : Nat) : Int) = z at hz hz2 ⊢
  refine ⟨⟨⟨⟨⟨by omega, by omega⟩, by omega, by omega⟩, by omega, by omega⟩, by omega, by omega⟩, .inr ?_⟩
  rw [if_pos (by omega)]
  simp only [Bool.and_eq_true, decide_eq_true_eq]
  omega
def spTot (K : PySem.W.Frag) : Sp := fun vs H Q _ => ∃ (a b : Addr) (l hs : List Nat) (g : Nat), vs = [.ref a, nv g, .ref b] ∧ SqL K H a (nvs l) ∧ SqL K H b (nvs hs) ∧ 0 < g ∧ g < 1000000 ∧ l.length < 1000000 ∧ (∀ i ∈ l, i < hs.length) ∧
  ∀ H' p, Same H H' → H p = none → H' p = some (.lst (nvs (tots g hs l))) → Q (.ref p) H'
theorem ok_group_totals (T : Txt K mg A) : FnOk P w K mg base CX0 1 A.f_group_totals A.fd_group_totals ["cells", "size", "holds"] (spTot K) := by
  refine T.F_group_totals.ok sc_group_totals (fun vs H Q E h => ?_) (fun cdv A outer s H vs Q E hr h => ?_)
  · obtain ⟨a, b, l, hs, g, rfl, _⟩ := h
    rfl
  · obtain ⟨a, b, l, hs, g, rfl, ha, hb, hg, hg2, hl, hin, k⟩ := h
    refine ⟨_, (pss_cons (ps_set (i := 3) sc_group_totals.nd rfl (by first | exact Or.inl rfl | exact Or.inr rfl) (pe_lst pa_nil))
      (pss_cons (ps_for PassesOwn.never rfl (pi_range3 rfl T.b_range (pa_cons pe_int (pa_cons (pe_callB (len_seqK (K := K) rfl) (by rfl) T.b_len boot_len (pa_cons (pv 0) pa_nil)) (pa_cons (pv 1) pa_nil)))) (pg_name (i := 4) sc_group_totals.nd rfl (by first | exact Or.inl rfl | exact Or.inr rfl)) (pss_one (ps_expr (pe_bmK (K := K) rfl PySem.F.plainAttrs_list PySem.F.slot_list_append PySem.F.type_list_append mt_append (pv 3) (pa_cons (pe_callB (sumK (K := K) rfl rfl) (by rfl) T.b_sum boot_sum (pa_cons (pe_lc rfl sc_group_totals.nd (own := [("i", 5)]) (pi_listK (K := K) rfl (pe_slice (sl_listK (K := K) rfl) (pv 0) (po_some (pv 4)) (po_some (pe_op op_add (pv 4) (pv 1))))) (blkOk_by (by show blkC ["cells", "size", "holds", "totals", "first", "i"] (defScope s_group_totals) _ _ = true; decide +kernel)) (fun _ _ _ _ _ => (pg_name (i := 5) sc_group_totals.nd rfl (by first | exact Or.inl rfl | exact Or.inr rfl))) (fun _ _ _ _ _ => pts_nil) (fun _ _ _ _ _ => (pe_ix (ix_listK (K := K) rfl) (pv 2) (pv 5) (fun _ _ => rfl)))) pa_nil)) pa_nil)))))
      (pss_one (ps_ret (pv 3))))), ?_⟩
    refine ⟨Nat.zero_le _, fun t ht => ?_⟩
    have s1 : Same H (upd H t (.lst [])) := (Same.refl H).laid ht
    refine ⟨_, rfl, a, _, rfl, .inl (s1.seq ha), _, rfl, _, _, _, _, rfl, (by rw [nvs_len]; exact rgC_up hg hg2 (by omega)), ?_⟩
    refine for_rangeC (fun i σ H' => ∃ v5 v6, σ = [some (.ref a), some (nv g), some (.ref b), some (.ref t), v5, v6] ∧ Same H H' ∧ H' t = some (.lst (nvs ((tots g hs l).take i)))) ⟨none, none, rfl, s1, upd_same⟩ ?_ ?_
    · rintro i σ H' hi ⟨v5, v6, rfl, s2, h2⟩
      have hcut : ((cuts g l).map (sumOf hs))[i]? = some (sumOf hs (cutAt g l i)) := by
        unfold cuts
        rw [List.getElem?_map, List.getElem?_map, List.getElem?_range hi]
        rfl
      refine ⟨_, rfl, .inl ⟨rfl, _, SqL.of h2⟩, _, rfl, _, rfl, _, rfl, _, rfl, _, rfl, _, _, rfl, rfl, _, rfl, a, _, rfl, s2.seq ha, fun p hp => ⟨p, rfl, ⟨_, SqL.of upd_same⟩, fun D hD => ?_⟩⟩
      have ec : cutV (nvs l) (some (0 + (i : Int) * (g : Int))) (some (0 + (i : Int) * (g : Int) + (g : Int))) = nvs (cutAt g l i) := by
        have e1 : (0 + (i : Int) * (g : Int)) = ((i * g : Nat) : Int) := by rw [Int.zero_add]; exact (Int.natCast_mul i g).symm
        have e2 : (0 + (i : Int) * (g : Int) + (g : Int)) = ((i * g + g : Nat) : Int) := by rw [e1]; omega
        rw [e2, e1, cut_nat, nvs_drop, nvs_take]
        rfl
      have hp1 : (upd H' p (.lst (cutV (nvs l) (some (0 + (i : Int) * (g : Int))) (some (0 + (i : Int) * (g : Int) + (g : Int)))))) p = some (.lst (nvs (cutAt g l i))) := by rw [upd_same, ec]
      have s3 : Same H' (upd H' p (.lst (cutV (nvs l) (some (0 + (i : Int) * (g : Int))) (some (0 + (i : Int) * (g : Int) + (g : Int)))))) := (Same.refl _).laid hp
      generalize upd H' p (.lst (cutV (nvs l) (some (0 + (i : Int) * (g : Int))) (some (0 + (i : Int) * (g : Int) + (g : Int))))) = H1 at hD hp1 s3 ⊢
      refine lc_list (xs := nvs (cutAt g l i)) (fun j Hj => Same H1 Hj ∧ Hj D = some (.lst (nvs (((cutAt g l i).map fun i => hs.getD i 0).take j)))) ⟨(Same.refl _).laid hD, upd_same⟩ (fun j Hj _ q => SqL.of (q.1 _ _ hp1)) ?_ ?_
      · rintro j x Hj hx ⟨s4, h4⟩
        obtain ⟨n, hn, rfl⟩ := nvs_get hx
        have hmem : n ∈ l := cut_mem (List.mem_of_getElem? hn)
        have hat : hs[n]? = some (hs.getD n 0) := by rw [List.getD_eq_getElem?_getD, List.getElem?_eq_getElem (hin n hmem)]; rfl
        refine ⟨rfl, _, rfl, _, rfl, b, _, _, _, rfl, rfl, s4.seq (s3.seq (s2.seq hb)), at_of rfl (nvs_at hat), _, h4, ?_, s4.put hD, ?_⟩
        · rw [nvs_len, List.length_take]
          have : ((cutAt g l i).map fun i => hs.getD i 0).length ≤ l.length := by rw [List.length_map]; exact Nat.le_trans (List.length_take_le' _ _) (by rw [List.length_drop]; omega)
          rw [sizeLine_eq]
          omega
        · rw [upd_same, take_snoc (x := hs.getD n 0) (by rw [List.getElem?_map, hn]; rfl), nvs_app]
          rfl
      · rintro Hj ⟨s4, h4⟩
        rw [nvs_len, List.take_of_length_le (by simp)] at h4
        have s5 : Same H' Hj := s3.trans s4
        refine ⟨D, _, rfl, SqL.of h4, t, _, _, rfl, rfl, s5 _ _ h2, ?_, _, _, rfl, (s2.trans s5).put ht, ?_⟩
        · rw [nvs_len, List.length_take]
          have : (tots g hs l).length ≤ l.length + g := by
            simp only [tots, cuts, List.length_map, List.length_range]
            exact Nat.le_trans (Nat.div_le_self _ _) (by omega)
          rw [sizeLine_eq]
          omega
        · rw [upd_same, take_snoc (l := tots g hs l) hcut, nvs_app]
          refine congrArg (fun z => some (HO.lst z)) (congrArg (fun z => nvs ((tots g hs l).take i) ++ [V.int z]) ?_)
          unfold sumOf
          generalize ((cutAt g l i).map fun i => hs.getD i 0) = q
          induction q with
          | nil => rfl
          | cons x q ih =>
            show (x : Int) + (q.map fun (n : Nat) => (n : Int)).sum = ((Kqb4.sum (x :: q) : Nat) : Int)
            have ih' : (q.map fun (n : Nat) => (n : Int)).sum = ((Kqb4.sum q : Nat) : Int) := ih
            rw [ih']
            show _ = ((x + Kqb4.sum q : Nat) : Int)
            omega
    · rintro σ H' ⟨v5, v6, rfl, s2, h2⟩
      refine ⟨_, rfl, k _ _ s2 ht ?_⟩
      rw [h2]
      have e : ((tots g hs l).take ((l.length + g - 1) / g)) = tots g hs l := List.take_of_length_le (by simp [tots, cuts])
      rw [e]
/-! ### lists of lists -/
def At (H : Hp) (a : Addr) (d : List Nat) : Prop := H a = some (.lst (nvs d))
def Ats (H : Hp) : List Addr → List (List Nat) → Prop := Paired (At H)
theorem Ats.app {H : Hp} : ∀ {as bs : List Addr} {ds es : List (List Nat)}, Ats H as ds → Ats H bs es → Ats H (as ++ bs) (ds ++ es)
  | _, _, _, _, .nil, q => q
  | _, _, _, _, .cons h t, q => .cons h (Ats.app t q)
theorem Ats.keep {H H' : Hp} : ∀ {as : List Addr} {ds : List (List Nat)}, (∀ a ∈ as, ∀ o, H a = some o → H' a = some o) → Ats H as ds → Ats H' as ds
  | _, _, _, .nil => .nil
  | _, _, k, .cons h t => .cons (k _ (by simp) _ h) (Ats.keep (fun a ha => k a (by simp [ha])) t)
theorem Ats.same {H H' : Hp} {as : List Addr} {ds : List (List Nat)} (s : Same H H') (h : Ats H as ds) : Ats H' as ds := Ats.keep (fun a _ o e => s a o e) h
theorem Ats.tracked {H : Hp} : ∀ {as : List Addr} {ds : List (List Nat)}, Ats H as ds → ∀ a ∈ as, ∃ d, H a = some (.lst (nvs d))
  | _, _, .nil, a, ha => by simp at ha
  | _, _, .cons h t, a, ha => by
    rcases List.mem_cons.mp ha with rfl | ha
    · exact ⟨_, h⟩
    · exact Ats.tracked t a ha
def Lol (H : Hp) (p : Addr) (ds : List (List Nat)) : Prop := ∃ as : List Addr, H p = some (.lst (as.map V.ref)) ∧ Ats H as ds
theorem Lol.same {H H' : Hp} {p : Addr} {ds : List (List Nat)} (s : Same H H') (h : Lol H p ds) : Lol H' p ds := let ⟨as, h1, h2⟩ := h; ⟨as, s _ _ h1, h2.same s⟩
/-- .. whose items are new since H0 -/
def LolF (H0 H : Hp) (p : Addr) (ds : List (List Nat)) : Prop := ∃ as : List Addr, H p = some (.lst (as.map V.ref)) ∧ Ats H as ds ∧ ∀ a ∈ as, H0 a = none
theorem fm_len {α β : Type} (f : α → List β) (m : Nat) : ∀ l : List α, (∀ x ∈ l, (f x).length ≤ m) → (l.flatMap f).length ≤ l.length * m
  | [], _ => by simp
  | a :: l, h => by
    have ih := fm_len f m l fun x hx => h x (by simp [hx])
    have := h a (by simp)
    rw [List.flatMap_cons, List.length_append, List.length_cons, Nat.add_mul, Nat.one_mul]
    omega
theorem grow_len (L : List Nat) (g : Nat) (ds : List (List Nat)) : (grow L g ds).length ≤ ds.length * L.length :=
  fm_len _ _ _ fun d _ => by rw [List.length_map]; exact List.length_filter_le _ _
theorem grown_len (L : List Nat) (g : Nat) : ∀ n, (grown L g n).length ≤ L.length ^ n
  | 0 => by simp [grown]
  | n + 1 => Nat.le_trans (grow_len L g _) (by rw [Nat.pow_succ]; exact Nat.mul_le_mul_right _ (grown_len L g n))
theorem grow_take {L : List Nat} {g j : Nat} {ds : List (List Nat)} {d : List Nat} (h : ds[j]? = some d) : grow L g (ds.take (j + 1)) = grow L g (ds.take j) ++ (L.filter (mayF g d)).map fun c => d ++ [c] := by
  rw [take_snoc h]
  unfold grow
  rw [List.flatMap_append, List.flatMap_cons, List.flatMap_nil, List.append_nil]
theorem grown_lenM {L : List Nat} {g : Nat} : ∀ {n : Nat} {d : List Nat}, d ∈ grown L g n → d.length = n
  | 0, d, h => by
    have : d = [] := by simpa [grown] using h
    rw [this]; rfl
  | n + 1, d, h => by
    have h' : d ∈ grow L g (grown L g n) := h
    unfold grow at h'
    obtain ⟨e, he, h'⟩ := List.mem_flatMap.mp h'
    obtain ⟨c, _, rfl⟩ := List.mem_map.mp h'
    rw [List.length_append, grown_lenM he]
    rfl
def spAll (K : PySem.W.Frag) : Sp := fun vs H Q _ => ∃ (a : Addr) (L : List Nat) (r g : Nat), vs = [.ref a, nv r, nv g] ∧ SqL K H a (nvs L) ∧ 0 < g ∧ r * g ≤ 8 ∧ L.length ≤ 8 ∧
  ∀ H' p, Same H H' → LolF H H' p (grown L g (r * g)) → Q (.ref p) H'
theorem ok_all_dealings (T : Txt K mg A) : FnOk P w K mg base CX0 2 A.f_all_dealings A.fd_all_dealings ["loose", "groups", "size"] (spAll K) := by
  have G_may_follow := ok_may_follow (P := P) (w := w) (base := base) T
  refine T.F_all_dealings.ok sc_all_dealings (fun vs H Q E h => ?_) (fun cdv A outer s H vs Q E hr h => ?_)
  · obtain ⟨a, L, r, g, rfl, _⟩ := h
    rfl
  · obtain ⟨a, L, r, g, rfl, ha, hg, hrg, hL, k⟩ := h
    refine ⟨_, (pss_cons (ps_set (i := 3) sc_all_dealings.nd rfl (by first | exact Or.inl rfl | exact Or.inr rfl) (pe_lst (pa_cons (pe_lst pa_nil) pa_nil)))
      (pss_cons (ps_for PassesOwn.never rfl (pi_range1 rfl T.b_range (pa_cons (pe_op op_mul (pv 1) (pv 2)) pa_nil)) (pg_name (i := 4) sc_all_dealings.nd rfl (by first | exact Or.inl rfl | exact Or.inr rfl)) (pss_cons (ps_set (i := 5) sc_all_dealings.nd rfl (by first | exact Or.inl rfl | exact Or.inr rfl) (pe_lst pa_nil))
      (pss_cons (ps_for PassesOwn.never rfl (pi_listK (K := K) rfl (pv 3)) (pg_name (i := 6) sc_all_dealings.nd rfl (by first | exact Or.inl rfl | exact Or.inr rfl)) (pss_one (ps_expr (pe_bmK (K := K) rfl PySem.F.plainAttrs_list PySem.F.slot_list_extend PySem.F.type_list_extend mt_extend (pv 5) (pa_cons (pe_lc rfl sc_all_dealings.nd (own := [("cell", 7)]) (pi_listK (K := K) rfl (pv 0)) (blkOk_by (by show blkC ["loose", "groups", "size", "dealings", "place", "longer", "dealt", "cell"] (defScope s_all_dealings) _ _ = true; decide +kernel)) (fun _ _ _ _ _ => (pg_name (i := 7) sc_all_dealings.nd rfl (by first | exact Or.inl rfl | exact Or.inr rfl))) (fun _ _ _ _ _ => (pts_one (pt_truthK (K := K) rfl (pe_call G_may_follow (hr.mono (by decide)) rfl T.m_may_follow T.F_may_follow.kp T.b_may_follow .nil pass0 (pa_cons (pv 6) (pa_cons (pv 2) (pa_cons (pv 7) pa_nil)))) (fun _ => rfl)))) (fun _ _ _ _ _ => (pe_op op_cat (pv 6) (pe_lst (pa_cons (pv 7) pa_nil))))) pa_nil)))))
      (pss_one (ps_set (i := 3) sc_all_dealings.nd rfl (by first | exact Or.inl rfl | exact Or.inr rfl) (pv 5))))))
      (pss_one (ps_ret (pv 3))))), ?_⟩
    refine ⟨Nat.zero_le _, fun e0 he0 => ⟨(by show 1 ≤ sizeLine; decide), fun dl hdl => ?_⟩⟩
    have s1 : Same H (upd (upd H e0 (.lst [])) dl (.lst [.ref e0])) := ((Same.refl H).laid he0).laid hdl
    have l1 : LolF H (upd (upd H e0 (.lst [])) dl (.lst [.ref e0])) dl (grown L g 0) := ⟨[e0], upd_same, .cons (by show _ = _; rw [upd_ne (ne_of_none upd_same hdl), upd_same]; rfl) .nil, by simpa using he0⟩
    generalize upd (upd H e0 (.lst [])) dl (.lst [.ref e0]) = H1 at s1 l1 ⊢
    have hr8 : r ≤ 8 := Nat.le_trans (Nat.le_mul_of_pos_right r hg) hrg
    refine ⟨_, rfl, _, rfl, _, _, rfl, rfl, .inl ⟨by omega, by omega⟩, _, rfl, ?_, ?_, ?_⟩
    · have : (0 : Int) ≤ (r : Int) * (g : Int) := Int.mul_nonneg (by omega) (by omega)
      omega
    · have : (r : Int) * (g : Int) = ((r * g : Nat) : Int) := (Int.natCast_mul r g).symm
      omega
    have en : ((r : Int) * (g : Int)).toNat = r * g := by rw [← Int.natCast_mul]; exact Int.toNat_natCast _
    refine for_range (fun i σ H' => ∃ dl v4 v5 v6 v7, σ = [some (.ref a), some (nv r), some (nv g), some (.ref dl), v4, v5, v6, v7] ∧ Same H H' ∧ LolF H H' dl (grown L g i)) ⟨dl, none, none, none, none, rfl, s1, l1⟩ ?_ ?_
    · rintro i σ H2 hi ⟨dl, v4, v5, v6, v7, rfl, s2, as, l2, A2, F2⟩
      rw [en] at hi
      refine ⟨Nat.zero_le _, fun lo hlo => ?_⟩
      have nlo : ∀ c o, H2 c = some o → c ≠ lo := fun c o e => ne_of_none e hlo
      refine ⟨_, rfl, dl, rfl, ⟨_, SqL.of (((Same.refl H2).laid hlo) _ _ l2)⟩, ?_⟩
      refine for_list (xs := as.map V.ref) (fun j σ H3 => ∃ v4 v6 v7 bs, σ = [some (.ref a), some (nv r), some (nv g), some (.ref dl), v4, some (.ref lo), v6, v7] ∧ Same H2 H3 ∧ H3 lo = some (.lst (bs.map V.ref)) ∧ Ats H3 bs (grow L g ((grown L g i).take j)) ∧ lo ∉ bs ∧ ∀ b ∈ bs, H b = none)
        ⟨_, _, _, [], rfl, (Same.refl H2).laid hlo, upd_same, .nil, by simp, by simp⟩ (fun j σ H3 _ ⟨_, _, _, _, _, s3, _⟩ => SqL.of (s3 _ _ l2)) ?_ ?_
      · rintro j x σ H3 hx ⟨v4, v6, v7, bs, rfl, s3, h3, A3, n3, f3⟩
        obtain ⟨c, hc, rfl⟩ : ∃ c, as[j]? = some c ∧ x = V.ref c := by
          rw [List.getElem?_map] at hx
          cases e : as[j]? with
          | none => rw [e] at hx; cases hx
          | some c => rw [e] at hx; exact ⟨c, rfl, (Option.some.inj hx).symm⟩
        obtain ⟨d, hd, hcd⟩ := paired_get A2 hc
        have hcd3 : H3 c = some (.lst (nvs d)) := s3 _ _ hcd
        refine ⟨_, rfl, .inl ⟨rfl, _, SqL.of h3⟩, _, rfl, a, rfl, ⟨_, s3.seq (s2.seq ha)⟩, fun D hD => ?_⟩
        refine lc_list (xs := nvs L) (fun m H4 => Same H3 H4 ∧ ∃ cs, H4 D = some (.lst (cs.map V.ref)) ∧ Ats H4 cs (((L.take m).filter (mayF g d)).map fun c => d ++ [c]) ∧ D ∉ cs ∧ ∀ c ∈ cs, H3 c = none) ⟨(Same.refl _).laid hD, [], upd_same, .nil, by simp, by simp⟩ (fun m H4 _ q => q.1.seq (s3.seq (s2.seq ha))) ?_ ?_
        · rintro m x H4 hx ⟨s4, cs, h4, A4, n4, f4⟩
          obtain ⟨n, hn, rfl⟩ := nvs_get hx
          have hcd4 : H4 c = some (.lst (nvs d)) := s4 _ _ hcd3
          refine ⟨rfl, _, rfl, _, rfl, _, rfl, c, d, g, n, rfl, SqL.of hcd4, hg, _, rfl, ?_⟩
          rw [take_snoc hn, List.filter_append]
          refine ite2 (fun ht => ?_) (fun ht => ?_)
          · refine ⟨_, rfl, _, rfl, (by show 1 ≤ sizeLine; decide), fun q hq => ⟨c, q, _, _, rfl, rfl, ((Same.refl H4).laid hq) _ _ hcd4, upd_same, ?_, fun p hp => ?_⟩⟩
            · rw [nvs_len, grown_lenM (List.mem_of_getElem? hd)]
              show i + 1 ≤ sizeLine
              rw [sizeLine_eq]
              omega
            · have s5 : Same H4 (upd (upd H4 q (.lst [nv n])) p (.lst (nvs d ++ [nv n]))) := ((Same.refl H4).laid hq).laid hp
              have hpD : p ≠ D := fun e => by
                have := ((Same.refl H4).laid hq (o := .lst [nv n])) _ _ h4
                rw [← e, hp] at this
                cases this
              refine ⟨_, s5 _ _ h4, ?_, (s4.trans s5).put hD, cs ++ [p], ?_, ?_, ?_, ?_⟩
              · have := Paired.length A4
                have h8 : ((L.take m).filter (mayF g d)).length ≤ L.length := Nat.le_trans (List.length_filter_le _ _) (by rw [List.length_take]; omega)
                rw [List.length_map] at this
                rw [List.length_map, this, sizeLine_eq]
                omega
              · rw [upd_same, List.map_append]; rfl
              · rw [List.filter_cons_of_pos ht, List.filter_nil, List.map_append]
                refine Ats.app (A4.keep fun b hb o e => ?_) (.cons ?_ .nil)
                · rw [upd_ne (fun (e : b = D) => n4 (e ▸ hb))]
                  exact s5 _ _ e
                · show _ = _
                  rw [upd_ne hpD, upd_same, nvs_app]
                  rfl
              · simp only [List.mem_append, List.mem_singleton]
                rintro (h | h)
                · exact n4 h
                · exact hpD h.symm
              · intro c hc
                rcases List.mem_append.mp hc with h | h
                · exact f4 c h
                · rw [List.mem_singleton.mp h]
                  exact (s4.trans ((Same.refl H4).laid hq)).free hp
          · rw [List.filter_cons_of_neg ht, List.filter_nil, List.append_nil]
            exact ⟨s4, cs, h4, A4, n4, f4⟩
        · rintro H4 ⟨s4, cs, h4, A4, n4, f4⟩
          rw [nvs_len, List.take_of_length_le (Nat.le_refl _)] at A4
          have hlo4 := s4 _ _ h3
          refine ⟨lo, D, _, _, rfl, rfl, hlo4, h4, ?_, _, _, _, bs ++ cs, rfl, ?_, ?_, ?_, ?_, ?_⟩
          · have e1 := Paired.length A3
            have e2 := Paired.length A4
            have e3 : (grow L g ((grown L g i).take (j + 1))).length = bs.length + cs.length := by rw [grow_take hd, List.length_append, e1, e2]
            have e4 := grow_len L g ((grown L g i).take (j + 1))
            have e5 : ((grown L g i).take (j + 1)).length ≤ (grown L g i).length := by rw [List.length_take]; omega
            have e6 := grown_len L g i
            have e7 : ((grown L g i).take (j + 1)).length * L.length ≤ 8 ^ 8 := by
              have h1 : L.length ^ i ≤ 8 ^ i := Nat.pow_le_pow_left hL i
              have h2 : (8 : Nat) ^ i ≤ 8 ^ 7 := Nat.pow_le_pow_right (by omega) (by omega)
              exact Nat.le_trans (Nat.mul_le_mul (Nat.le_trans e5 (Nat.le_trans e6 (Nat.le_trans h1 h2))) hL) (by decide)
            rw [List.length_map, List.length_map, sizeLine_eq, ← e3]
            exact Nat.le_trans (Nat.le_trans e4 e7) (by decide)
          · exact (s3.trans s4).put hlo
          · rw [upd_same, List.map_append]
          · rw [grow_take hd]
            refine Ats.app (A3.keep fun b hb o e => ?_) (A4.keep fun b hb o e => ?_)
            · rw [upd_ne (fun (e : b = lo) => n3 (e ▸ hb))]
              exact s4 _ _ e
            · rw [upd_ne (fun (e' : b = lo) => by have := f4 b hb; rw [e', h3] at this; cases this)]
              exact e
          · intro h
            rcases List.mem_append.mp h with h | h
            · exact n3 h
            · have := f4 lo h
              rw [h3] at this
              cases this
          · intro b hb
            rcases List.mem_append.mp hb with h | h
            · exact f3 b h
            · exact (s2.trans s3).free (f4 b h)
      · rintro σ H3 ⟨v4, v6, v7, bs, rfl, s3, h3, A3, n3, f3⟩
        rw [List.length_map, Paired.length A2, List.take_length] at A3
        exact ⟨_, rfl, lo, _, _, _, _, rfl, s2.trans s3, bs, h3, A3, f3⟩
    · rintro σ H2 ⟨dl, v4, v5, v6, v7, rfl, s2, l2⟩
      rw [en] at l2
      exact ⟨_, rfl, k _ _ s2 l2⟩
end
end CP
end

section
set_option Elab.async false
set_option linter.all false
set_option maxRecDepth 100000
set_option maxHeartbeats 1000000
namespace CP
open PySem PySem.Spec PyProof.Rows L2
section
variable {P : Program} {w : World} {K : PySem.W.Frag} {mg : Str → Option Value} {base : Heap} {A : Ad}
def bestF (g : Nat) (hs : List Nat) (ds : List (List Nat)) : Option (List Nat) := ds.foldl (pick g hs) none
theorem bestF_snoc {g : Nat} {hs : List Nat} {ds : List (List Nat)} {j : Nat} {d : List Nat} (h : ds[j]? = some d) : bestF g hs (ds.take (j + 1)) = pick g hs (bestF g hs (ds.take j)) d := by
  unfold bestF
  rw [take_snoc h, List.foldl_append]
  rfl
theorem lex_worse (a b c d : Nat) : HT.lexLt [(a : Int), -(b : Int)] [(c : Int), -(d : Int)] = worse (a, b) (c, d) := by
  unfold worse
  rw [HT.lexLt_cons, HT.lexLt_cons, HT.lexLt_nil_nil]
  by_cases h : a = c
  · subst h
    by_cases h2 : b = d
    · subst h2; simp
    · rw [if_pos rfl, if_neg (by omega)]
      simp only [Nat.lt_irrefl, decide_false, beq_self_eq_true, Bool.true_and, Bool.false_or]
      exact decide_eq_decide.mpr (by omega)
  · rw [if_neg (by omega)]
    have : (a == c) = false := beq_eq_false_iff_ne.mpr h
    simp only [this, Bool.false_and, Bool.or_false]
    exact decide_eq_decide.mpr (by omega)
/-- what best_dealing gives: nothing, or a list that is new -/
def BestAt (H H' : Hp) (v : V) : Option (List Nat) → Prop
  | none => v = .non
  | some d => ∃ p, v = .ref p ∧ H' p = some (.lst (nvs d)) ∧ H p = none
theorem grown_mem {L : List Nat} {g : Nat} : ∀ {n : Nat} {d : List Nat}, d ∈ grown L g n → ∀ i ∈ d, i ∈ L
  | 0, d, h, i, hi => by
    have : d = [] := by simpa [grown] using h
    rw [this] at hi; simp at hi
  | n + 1, d, h, i, hi => by
    have h' : d ∈ grow L g (grown L g n) := h
    unfold grow at h'
    obtain ⟨e, he, h'⟩ := List.mem_flatMap.mp h'
    obtain ⟨c, hc, rfl⟩ := List.mem_map.mp h'
    rcases List.mem_append.mp hi with h1 | h1
    · exact grown_mem he i h1
    · rw [List.mem_singleton.mp h1]
      exact (List.mem_filter.mp hc).1
theorem tots_ne {g : Nat} (hg : 0 < g) {hs d : List Nat} (h : 0 < d.length) : tots g hs d ≠ [] := by
  unfold tots cuts
  have : 0 < (d.length + g - 1) / g := Nat.div_pos (by omega) hg
  intro e
  have := congrArg List.length e
  simp at this
  omega
def spBest (K : PySem.W.Frag) : Sp := fun vs H Q _ => ∃ (a b : Addr) (L hs : List Nat) (r g : Nat), vs = [.ref a, nv r, nv g, .ref b] ∧ SqL K H a (nvs L) ∧ SqL K H b (nvs hs) ∧ 0 < g ∧ 0 < r ∧ r * g ≤ 8 ∧ L.length ≤ 8 ∧ (∀ i ∈ L, i < hs.length) ∧
  ∀ H' v, Same H H' → BestAt H H' v (bestF g hs (grown L g (r * g))) → Q v H'
theorem ok_best_dealing (T : Txt K mg A) : FnOk P w K mg base CX0 3 A.f_best_dealing A.fd_best_dealing ["loose", "groups", "size", "holds"] (spBest K) := by
  have G_all_dealings := ok_all_dealings (P := P) (w := w) (base := base) T
  have G_group_totals := ok_group_totals (P := P) (w := w) (base := base) T
  have G_spread_of := ok_spread_of (P := P) (w := w) (base := base) T
  have G_strength_of := ok_strength_of (P := P) (w := w) (base := base) T
  refine T.F_best_dealing.ok sc_best_dealing (fun vs H Q E h => ?_) (fun cdv A outer s H vs Q E hr h => ?_)
  · obtain ⟨a, b, L, hs, r, g, rfl, _⟩ := h
    rfl
  · obtain ⟨a, b, L, hs, r, g, rfl, ha, hb, hg, hr0, hrg, hL, hin, k⟩ := h
    have hu0 := hr.units0
    have hg8 : g ≤ 8 := Nat.le_trans (Nat.le_mul_of_pos_left g hr0) hrg
    have hn0 : 0 < r * g := Nat.mul_pos hr0 hg
    refine ⟨_, (pss_cons (ps_set (i := 4) sc_best_dealing.nd rfl (by first | exact Or.inl rfl | exact Or.inr rfl) pe_non)
      (pss_cons (ps_set (i := 5) sc_best_dealing.nd rfl (by first | exact Or.inl rfl | exact Or.inr rfl) pe_non)
      (pss_cons (ps_for PassesOwn.never rfl (pi_listK (K := K) rfl (pe_call G_all_dealings (hr.mono (by decide)) rfl T.m_all_dealings T.F_all_dealings.kp T.b_all_dealings .nil pass0 (pa_cons (pv 0) (pa_cons (pv 1) (pa_cons (pv 2) pa_nil))))) (pg_name (i := 6) sc_best_dealing.nd rfl (by first | exact Or.inl rfl | exact Or.inr rfl)) (pss_cons (ps_set (i := 7) sc_best_dealing.nd rfl (by first | exact Or.inl rfl | exact Or.inr rfl) (pe_call G_group_totals (hr.mono (by decide)) rfl T.m_group_totals T.F_group_totals.kp T.b_group_totals .nil pass0 (pa_cons (pv 6) (pa_cons (pv 2) (pa_cons (pv 3) pa_nil)))))
      (pss_cons (ps_set (i := 8) sc_best_dealing.nd rfl (by first | exact Or.inl rfl | exact Or.inr rfl) (pe_tup (pa_cons (pe_call G_strength_of (hr.mono (by decide)) rfl T.m_strength_of T.F_strength_of.kp T.b_strength_of .nil pass0 (pa_cons (pv 7) pa_nil)) (pa_cons (pe_un un_neg (pe_call G_spread_of (hr.mono (by decide)) rfl T.m_spread_of T.F_spread_of.kp T.b_spread_of .nil pass0 (pa_cons (pv 7) pa_nil))) pa_nil))))
      (pss_one (ps_if (PW.pt (pw_or (pt_cmpR op_isN (pv 4) pe_non (nomark _)) (pw_or1 (pt_cmpR (gtTK (K := K) rfl hu0) (pv 8) (pv 5) (nomark _))))) (pss_cons (ps_set (i := 4) sc_best_dealing.nd rfl (by first | exact Or.inl rfl | exact Or.inr rfl) (pv 6))
      (pss_one (ps_set (i := 5) sc_best_dealing.nd rfl (by first | exact Or.inl rfl | exact Or.inr rfl) (pv 8)))) pss_nil)))))
      (pss_one (ps_ret (pv 4)))))), ?_⟩
    refine ⟨_, rfl, _, rfl, _, rfl, a, L, r, g, rfl, ha, hg, hrg, hL, fun H1 dl s1 l1 => ?_⟩
    obtain ⟨as, l1, A1, F1⟩ := l1
    refine ⟨dl, rfl, ⟨_, SqL.of l1⟩, ?_⟩
    refine for_list (xs := as.map V.ref) (fun j σ H2 => ∃ v4 v5 v6 v7 v8, σ = [some (.ref a), some (nv r), some (nv g), some (.ref b), some v4, some v5, v6, v7, v8] ∧ Same H1 H2 ∧ BestAt H H2 v4 (bestF g hs ((grown L g (r * g)).take j)) ∧
        ∀ d, bestF g hs ((grown L g (r * g)).take j) = some d → ∃ t, v5 = .ref t ∧ H2 t = some (.tup [nv (keyOf g hs d).1, .int (-((keyOf g hs d).2 : Int))]))
      ⟨_, _, _, _, _, rfl, Same.refl _, rfl, fun d e => by cases e⟩ (fun j σ H2 _ ⟨_, _, _, _, _, _, s2, _⟩ => SqL.of (s2 _ _ l1)) ?_ ?_
    · rintro j x σ H2 hx ⟨v4, v5, v6, v7, v8, rfl, s2, b2, t2⟩
      obtain ⟨c, hc, rfl⟩ : ∃ c, as[j]? = some c ∧ x = V.ref c := by
        rw [List.getElem?_map] at hx
        cases e : as[j]? with
        | none => rw [e] at hx; cases hx
        | some c => rw [e] at hx; exact ⟨c, rfl, (Option.some.inj hx).symm⟩
      obtain ⟨d, hd, hcd⟩ := paired_get A1 hc
      have hdm := List.mem_of_getElem? hd
      have hdl := grown_lenM hdm
      have hcd2 : H2 c = some (.lst (nvs d)) := s2 _ _ hcd
      have htn : tots g hs d ≠ [] := tots_ne hg (by omega)
      refine ⟨_, rfl, _, rfl, _, rfl, c, b, d, hs, g, rfl, SqL.of hcd2, s2.seq (s1.seq hb), hg, by omega, by omega, fun i hi => hin i (grown_mem hdm i hi), fun H3 t s3 ht h3 => ?_⟩
      refine ⟨_, rfl, t, _, rfl, SqL.of h3, htn, _, rfl, t, _, rfl, SqL.of h3, htn, _, rfl, (by show 2 ≤ sizeLine; decide), fun u hu => ?_⟩
      have s4 : Same H3 (upd H3 u (.tup [nv (keyOf g hs d).1, .int (-((keyOf g hs d).2 : Int))])) := (Same.refl _).laid hu
      rw [bestF_snoc hd]
      generalize hB : bestF g hs ((grown L g (r * g)).take j) = B at b2 t2 ⊢
      have s5 : Same H2 (upd H3 u (.tup [nv (keyOf g hs d).1, .int (-((keyOf g hs d).2 : Int))])) := s3.trans s4
      cases B with
      | none =>
        have e4 : v4 = .non := b2
        subst e4
        refine ⟨_, rfl, rfl, _, rfl, ?_⟩
        refine ⟨_, rfl, _, rfl, _, _, _, _, _, rfl, s2.trans s5, ⟨c, rfl, s5 _ _ hcd2, F1 c (List.mem_of_getElem? hc)⟩, fun d' e => ?_⟩
        cases e
        exact ⟨u, rfl, upd_same⟩
      | some d0 =>
        obtain ⟨q, rfl, hq, fq⟩ := b2
        obtain ⟨t0, rfl, ht0⟩ := t2 d0 rfl
        refine ⟨_, rfl, rfl, _, rfl, ?_⟩
        refine ⟨_, rfl, _, rfl, u, t0, [((keyOf g hs d).1 : Int), -((keyOf g hs d).2 : Int)], [((keyOf g hs d0).1 : Int), -((keyOf g hs d0).2 : Int)], rfl, rfl, SqT.of upd_same, SqT.of (s5 _ _ ht0), _, rfl, ?_⟩
        rw [lex_worse]
        unfold pick
        refine ite2 (fun hw => ?_) (fun hw => ?_)
        · have hw' : worse (keyOf g hs d0) (keyOf g hs d) = true := hw
          refine ⟨_, rfl, _, rfl, _, _, _, _, _, rfl, s2.trans s5, ?_, fun d' e => ?_⟩
          · show BestAt H _ _ (if worse (keyOf g hs d0) (keyOf g hs d) = true then some d else some d0)
            rw [if_pos hw']
            exact ⟨c, rfl, s5 _ _ hcd2, F1 c (List.mem_of_getElem? hc)⟩
          · have e : (if worse (keyOf g hs d0) (keyOf g hs d) = true then some d else some d0) = some d' := e
            rw [if_pos hw'] at e
            cases e
            exact ⟨u, rfl, upd_same⟩
        · have hw' : ¬ worse (keyOf g hs d0) (keyOf g hs d) = true := hw
          refine ⟨_, _, _, _, _, rfl, s2.trans s5, ?_, fun d' e => ?_⟩
          · show BestAt H _ _ (if worse (keyOf g hs d0) (keyOf g hs d) = true then some d else some d0)
            rw [if_neg hw']
            exact ⟨q, rfl, s5 _ _ hq, fq⟩
          · have e : (if worse (keyOf g hs d0) (keyOf g hs d) = true then some d else some d0) = some d' := e
            rw [if_neg hw'] at e
            cases e
            exact ⟨t0, rfl, s5 _ _ ht0⟩
    · rintro σ H2 ⟨v4, v5, v6, v7, v8, rfl, s2, b2, t2⟩
      rw [List.length_map, Paired.length A1, List.take_length] at b2
      exact ⟨_, rfl, k _ _ (s1.trans s2) b2⟩
end
end CP
end

section
set_option Elab.async false
set_option linter.all false
set_option maxRecDepth 100000
set_option maxHeartbeats 1000000
namespace CP
open PySem PySem.Spec PyProof.Rows L2
/-! The shop as it lies on the heap. -/
def packV : Nat → V
  | 0 => .non
  | k + 1 => nv k
structure CellF (fs : List (Str × V)) (x : Kqb4.Cell) : Prop where
  len : fs.length ≤ 4
  holds : fs.lookup ("holds" : Str) = some (nv x.holds)
  resists : fs.lookup ("resists" : Str) = some (nv x.resists)
  pack : fs.lookup ("pack" : Str) = some (packV x.pack)
  scrap : fs.lookup ("scrap" : Str) = some (.bl x.scrap)
structure PackF (fs : List (Str × V)) (g : Nat) (l : Addr) : Prop where
  len : fs.length ≤ 2
  size : fs.lookup ("size" : Str) = some (nv g)
  cells : fs.lookup ("cells" : Str) = some (.ref l)
structure StockF (fs : List (Str × V)) (bl cl pk : Addr) : Prop where
  len : fs.length ≤ 3
  bounds : fs.lookup ("bounds" : Str) = some (.ref bl)
  cells : fs.lookup ("cells" : Str) = some (.ref cl)
  packs : fs.lookup ("packs" : Str) = some (.ref pk)
theorem putF_len {f : Str} {v w : V} : ∀ {fs : List (Str × V)}, fs.lookup f = some w → (putF f v fs).length = fs.length
  | [], h => by cases h
  | (g, x) :: r, h => by
    unfold putF
    by_cases e : g = f
    · rw [if_pos e]; rfl
    · rw [if_neg e, List.length_cons, List.length_cons]
      have : (f == g) = false := beq_eq_false_iff_ne.mpr fun z => e z.symm
      rw [List.lookup_cons, this] at h
      rw [putF_len h]
theorem look_same (f : Str) (v : V) (fs : List (Str × V)) : (putF f v fs).lookup f = some v := by rw [lookup_putF, if_pos rfl]
theorem look_ne {f g : Str} (v : V) (fs : List (Str × V)) (h : ¬ g = f) : (putF f v fs).lookup g = fs.lookup g := by rw [lookup_putF, if_neg h]
theorem CellF.new (h r : Nat) : CellF (putF "scrap" (.bl false) (putF "pack" .non (putF "resists" (nv r) (putF "holds" (nv h) [])))) ⟨h, r, 0, false⟩ := by
  refine ⟨?_, ?_, ?_, ?_, ?_⟩
  · have h1 := length_putF "scrap" (.bl false) (putF "pack" .non (putF "resists" (nv r) (putF "holds" (nv h) [])))
    have h2 := length_putF "pack" .non (putF "resists" (nv r) (putF "holds" (nv h) []))
    have h3 := length_putF "resists" (nv r) (putF "holds" (nv h) [])
    have h4 := length_putF "holds" (nv h) []
    simp only [List.length_nil] at h4
    omega
  · rw [look_ne _ _ (by decide +kernel), look_ne _ _ (by decide +kernel), look_ne _ _ (by decide +kernel), look_same]
  · rw [look_ne _ _ (by decide +kernel), look_ne _ _ (by decide +kernel), look_same]
  · rw [look_ne _ _ (by decide +kernel), look_same]; rfl
  · rw [look_same]
theorem CellF.setHolds {fs : List (Str × V)} {x : Kqb4.Cell} (c : CellF fs x) (h : Nat) : CellF (putF "holds" (nv h) fs) { x with holds := h } :=
  ⟨by rw [putF_len c.holds]; exact c.len, look_same _ _ _, by rw [look_ne _ _ (by decide +kernel)]; exact c.resists, by rw [look_ne _ _ (by decide +kernel)]; exact c.pack, by rw [look_ne _ _ (by decide +kernel)]; exact c.scrap⟩
theorem CellF.setResists {fs : List (Str × V)} {x : Kqb4.Cell} (c : CellF fs x) (h : Nat) : CellF (putF "resists" (nv h) fs) { x with resists := h } :=
  ⟨by rw [putF_len c.resists]; exact c.len, by rw [look_ne _ _ (by decide +kernel)]; exact c.holds, look_same _ _ _, by rw [look_ne _ _ (by decide +kernel)]; exact c.pack, by rw [look_ne _ _ (by decide +kernel)]; exact c.scrap⟩
theorem CellF.setPack {fs : List (Str × V)} {x : Kqb4.Cell} (c : CellF fs x) (p : Nat) : CellF (putF "pack" (packV p) fs) { x with pack := p } :=
  ⟨by rw [putF_len c.pack]; exact c.len, by rw [look_ne _ _ (by decide +kernel)]; exact c.holds, by rw [look_ne _ _ (by decide +kernel)]; exact c.resists, look_same _ _ _, by rw [look_ne _ _ (by decide +kernel)]; exact c.scrap⟩
theorem CellF.setScrap {fs : List (Str × V)} {x : Kqb4.Cell} (c : CellF fs x) (b : Bool) : CellF (putF "scrap" (.bl b) fs) { x with scrap := b } :=
  ⟨by rw [putF_len c.scrap]; exact c.len, by rw [look_ne _ _ (by decide +kernel)]; exact c.holds, by rw [look_ne _ _ (by decide +kernel)]; exact c.resists, by rw [look_ne _ _ (by decide +kernel)]; exact c.pack, look_same _ _ _⟩
theorem PackF.new (g : Nat) (l : Addr) : PackF (putF "cells" (.ref l) (putF "size" (nv g) [])) g l := by
  refine ⟨?_, ?_, ?_⟩
  · have h1 := length_putF "cells" (.ref l) (putF "size" (nv g) [])
    have h2 := length_putF "size" (nv g) []
    simp only [List.length_nil] at h2
    omega
  · rw [look_ne _ _ (by decide +kernel), look_same]
  · rw [look_same]
theorem StockF.new (bl cl pk : Addr) : StockF (putF "packs" (.ref pk) (putF "cells" (.ref cl) (putF "bounds" (.ref bl) []))) bl cl pk := by
  refine ⟨?_, ?_, ?_, ?_⟩
  · have h1 := length_putF "packs" (.ref pk) (putF "cells" (.ref cl) (putF "bounds" (.ref bl) []))
    have h2 := length_putF "cells" (.ref cl) (putF "bounds" (.ref bl) [])
    have h3 := length_putF "bounds" (.ref bl) []
    simp only [List.length_nil] at h3
    omega
  · rw [look_ne _ _ (by decide +kernel), look_ne _ _ (by decide +kernel), look_same]
  · rw [look_ne _ _ (by decide +kernel), look_same]
  · rw [look_same]
def CellAt (A : Ad) (H : Hp) (a : Addr) (x : Kqb4.Cell) : Prop := ∃ dx fs, H a = some (.ins A.c_Cell dx fs) ∧ CellF fs x
def PackAt (A : Ad) (H : Hp) (a l : Addr) (q : List (List Nat)) : Prop := (∃ dx fs, H a = some (.ins A.c_Pack dx fs) ∧ PackF fs (q.headD []).length l) ∧ H l = some (.lst (nvs q.flatten))
/-- where a shop's things lie -/
structure Loca where
  bl : Addr
  cl : Addr
  pk : Addr
  as : List Addr
  ps : List (Nat × Addr × Addr)
structure Rep (A : Ad) (H : Hp) (st : Addr) (y : Kqb4.Shop) (L : Loca) : Prop where
  st : ∃ dx fs, H st = some (.ins A.c_Stock dx fs) ∧ StockF fs L.bl L.cl L.pk
  bl : H L.bl = some (.lst (nvs y.bounds))
  cl : H L.cl = some (.lst (L.as.map V.ref))
  cells : Paired (CellAt A H) L.as y.cells
  nd : L.as.Nodup
  pk : H L.pk = some (.dK (L.ps.map fun p => (Sum.inl (p.1 : Int), V.ref p.2.1)))
  packs : ∀ p ∈ L.ps, ∃ q, y.packs[p.1]? = some (some q) ∧ PackAt A H p.2.1 p.2.2 q
  all : ∀ (n : Nat) q, y.packs[n]? = some (some q) → ∃ a l, (n, a, l) ∈ L.ps
  knd : (L.ps.map (·.1)).Nodup
  ind : (L.ps.map (·.2.1)).Nodup
  lnd : (L.bl :: L.cl :: L.ps.map (·.2.2)).Nodup
theorem pair_keep {α β : Type} {F G : α → β → Prop} : ∀ {l : List α} {m : List β}, (∀ a ∈ l, ∀ b, F a b → G a b) → Paired F l m → Paired G l m
  | _, _, _, .nil => .nil
  | _, _, k, .cons h t => .cons (k _ (by simp) _ h) (pair_keep (fun a ha => k a (by simp [ha])) t)
theorem Rep.same {A : Ad} {H H' : Hp} {st : Addr} {y : Kqb4.Shop} {L : Loca} (r : Rep A H st y L) (s : Same H H') : Rep A H' st y L :=
  ⟨let ⟨dx, fs, h, f⟩ := r.st; ⟨dx, fs, s _ _ h, f⟩, s _ _ r.bl, s _ _ r.cl, pair_keep (fun a _ x ⟨dx, fs, h, f⟩ => ⟨dx, fs, s _ _ h, f⟩) r.cells, r.nd, s _ _ r.pk,
    fun p hp => let ⟨q, h, ⟨dx, fs, h1, f⟩, h2⟩ := r.packs p hp; ⟨q, h, ⟨dx, fs, s _ _ h1, f⟩, s _ _ h2⟩, r.all, r.knd, r.ind, r.lnd⟩
theorem Rep.cell {A : Ad} {H : Hp} {st : Addr} {y : Kqb4.Shop} {L : Loca} (r : Rep A H st y L) {i : Nat} {x : Kqb4.Cell} (h : y.cells[i]? = some x) : ∃ a, L.as[i]? = some a ∧ CellAt A H a x := by
  have hl := Paired.length r.cells
  obtain ⟨hi, _⟩ := List.getElem?_eq_some_iff.mp h
  obtain ⟨a, ha⟩ : ∃ a, L.as[i]? = some a := ⟨_, List.getElem?_eq_getElem (by omega)⟩
  obtain ⟨x', hx', c⟩ := paired_get r.cells ha
  rw [h] at hx'
  cases hx'
  exact ⟨a, ha, c⟩
theorem Rep.len {A : Ad} {H : Hp} {st : Addr} {y : Kqb4.Shop} {L : Loca} (r : Rep A H st y L) : L.as.length = y.cells.length := Paired.length r.cells
theorem refs_get {as : List Addr} {i : Nat} {x : V} (h : (as.map V.ref)[i]? = some x) : ∃ a, as[i]? = some a ∧ x = .ref a := by
  rw [List.getElem?_map] at h
  cases e : as[i]? with
  | none => rw [e] at h; cases h
  | some a => rw [e] at h; exact ⟨a, rfl, (Option.some.inj h).symm⟩
theorem refs_at {as : List Addr} {i : Nat} {a : Addr} (h : as[i]? = some a) : (as.map V.ref)[i]? = some (.ref a) := by rw [List.getElem?_map, h]; rfl
end CP
end

section
set_option Elab.async false
set_option linter.all false
set_option maxRecDepth 100000
set_option maxHeartbeats 1000000
namespace CP
open PySem PySem.Spec PyProof.Rows L2
section
variable {P : Program} {w : World} {K : PySem.W.Frag} {mg : Str → Option Value} {base : Heap} {A : Ad}
def isL (x : Kqb4.Cell) : Bool := x.pack == 0 && !x.scrap
def spLoose (A : Ad) : Sp := fun vs H Q _ => ∃ (a : Addr) (x : Kqb4.Cell), vs = [.ref a] ∧ CellAt A H a x ∧ Q (.bl (isL x)) H
theorem ok_is_loose (T : Txt K mg A) : FnOk P w K mg base CX0 1 A.f_is_loose A.fd_is_loose ["cell"] (spLoose A) := by
  refine T.F_is_loose.ok sc_is_loose (fun vs H Q E h => ?_) (fun cdv B outer s H vs Q E hr h => ?_)
  · obtain ⟨a, x, rfl, _⟩ := h
    rfl
  · obtain ⟨a, x, rfl, ⟨dx, fs, ha, c⟩, k⟩ := h
    refine ⟨_, (pss_one (ps_ret (pe_and (pe_cmpR op_isN (pe_fldK (K := K) rfl (pv 0) rfl) pe_non (nomark _)) (pe_one (pe_not (pe_fldK (K := K) rfl (pv 0) rfl)))))), ?_⟩
    refine ⟨_, rfl, a, _, dx, fs, _, rfl, ha, T.C_Cell, T.n_Cell_pack, c.pack, rfl, _, rfl, ?_⟩
    unfold isL at k
    cases e : x.pack with
    | zero =>
      rw [e] at k
      exact ⟨_, rfl, a, _, dx, fs, _, rfl, ha, T.C_Cell, T.n_Cell_scrap, c.scrap, _, rfl, k⟩
    | succ n =>
      rw [e] at k
      exact k
/-- a def that reads the shop and lays a new list -/
def looseOf (l : List Kqb4.Cell) (n : Nat) : List Nat := (List.range n).filter fun i => ((l[i]?).map isL).getD false
theorem looseOf_snoc {l : List Kqb4.Cell} {i : Nat} {x : Kqb4.Cell} (h : l[i]? = some x) : looseOf l (i + 1) = looseOf l i ++ if isL x = true then [i] else [] := by
  unfold looseOf
  rw [List.range_succ, List.filter_append, List.filter_cons, h]
  rfl
theorem loose_of (y : Kqb4.Shop) : Kqb4.loose y = looseOf y.cells y.cells.length := rfl
def spLooseCells (A : Ad) : Sp := fun vs H Q _ => ∃ (st : Addr) (y : Kqb4.Shop) (L : Loca), vs = [.ref st] ∧ Rep A H st y L ∧ y.cells.length ≤ 24 ∧
  ∀ H' p, Same H H' → H p = none → H' p = some (.lst (nvs (Kqb4.loose y))) → Q (.ref p) H'
theorem ok_loose_cells (T : Txt K mg A) : FnOk P w K mg base CX0 2 A.f_loose_cells A.fd_loose_cells ["stock"] (spLooseCells A) := by
  have G_is_loose := ok_is_loose (P := P) (w := w) (base := base) T
  refine T.F_loose_cells.ok sc_loose_cells (fun vs H Q E h => ?_) (fun cdv B outer s H vs Q E hr h => ?_)
  · obtain ⟨st, y, L, rfl, _⟩ := h
    rfl
  · obtain ⟨st, y, L, rfl, R, h24, k⟩ := h
    refine ⟨_, (pss_one (ps_ret (pe_lc rfl sc_loose_cells.nd (own := [("i", 1), ("cell", 2)]) (pi_enumK (K := K) rfl rfl T.b_enumerate (pa_cons (pe_fldK (K := K) rfl (pv 0) rfl) pa_nil)) (blkOk_by (by show blkC ["stock", "i", "cell"] (defScope s_loose_cells) _ _ = true; decide +kernel)) (fun _ _ _ _ _ => (pg_tupK (K := K) (n := 2) rfl rfl (pgs_cons (pg_name (i := 1) sc_loose_cells.nd rfl (by first | exact Or.inl rfl | exact Or.inr rfl)) (pgs_cons (pg_name (i := 2) sc_loose_cells.nd rfl (by first | exact Or.inl rfl | exact Or.inr rfl)) pgs_nil)))) (fun _ _ _ _ _ => (pts_one (pt_truthK (K := K) rfl (pe_call G_is_loose (hr.mono (by decide)) rfl T.m_is_loose T.F_is_loose.kp T.b_is_loose .nil pass0 (pa_cons (pv 2) pa_nil)) (fun _ => rfl)))) (fun _ _ _ _ _ => (pv 1))))), ?_⟩
    obtain ⟨dx, fs, hst, f⟩ := R.st
    refine ⟨_, rfl, st, _, dx, fs, _, rfl, hst, T.C_Stock, T.n_Stock_cells, f.cells, L.cl, _, rfl, SqL.of R.cl, fun D hD => ?_⟩
    refine lc_enum (xs := L.as.map V.ref) (fun j H2 => Same H H2 ∧ H2 D = some (.lst (nvs (looseOf y.cells j)))) ⟨(Same.refl _).laid hD, upd_same⟩ (fun j H2 _ q => SqL.of (q.1 _ _ R.cl)) ?_ ?_
    · rintro j x H2 U hx ⟨s2, h2⟩ hU
      obtain ⟨a, ha, rfl⟩ := refs_get hx
      obtain ⟨x, hx', c⟩ := paired_get R.cells ha
      have s3 : Same H2 (upd H2 U (.tup [.int (j : Nat), .ref a])) := (Same.refl _).laid hU
      have c3 : CellAt A (upd H2 U (.tup [.int (j : Nat), .ref a])) a x := let ⟨dx, fs, h, f⟩ := c; ⟨dx, fs, s3 _ _ (s2 _ _ h), f⟩
      have hjl : j < 24 := by
        obtain ⟨hj, _⟩ := List.getElem?_eq_some_iff.mp hx'
        omega
      refine ⟨U, _, rfl, SqT.of upd_same, rfl, _, _, rfl, _, _, rfl, rfl, rfl, _, rfl, a, x, rfl, c3, _, rfl, ?_⟩
      rw [looseOf_snoc hx']
      refine ite2 (fun h => ?_) (fun h => ?_)
      · rw [if_pos h, nvs_app]
        refine ⟨_, rfl, _, s3 _ _ h2, ?_, (s2.trans s3).put hD, upd_same⟩
        rw [nvs_len, sizeLine_eq]
        have : (looseOf y.cells j).length ≤ j := Nat.le_trans (List.length_filter_le _ _) (by simp)
        omega
      · rw [if_neg h, List.append_nil]
        exact ⟨s2.trans s3, s3 _ _ h2⟩
    · rintro H2 ⟨s2, h2⟩
      rw [List.length_map, R.len] at h2
      exact k _ _ s2 hD h2
def hsOf (y : Kqb4.Shop) : List Nat := y.cells.map fun x => x.holds
def spHeld (A : Ad) : Sp := fun vs H Q _ => ∃ (st : Addr) (y : Kqb4.Shop) (L : Loca), vs = [.ref st] ∧ Rep A H st y L ∧ y.cells.length ≤ 24 ∧
  ∀ H' p, Same H H' → H p = none → H' p = some (.lst (nvs (hsOf y))) → Q (.ref p) H'
theorem ok_held (T : Txt K mg A) : FnOk P w K mg base CX0 1 A.f_held A.fd_held ["stock"] (spHeld A) := by
  refine T.F_held.ok sc_held (fun vs H Q E h => ?_) (fun cdv B outer s H vs Q E hr h => ?_)
  · obtain ⟨st, y, L, rfl, _⟩ := h
    rfl
  · obtain ⟨st, y, L, rfl, R, h24, k⟩ := h
    refine ⟨_, (pss_one (ps_ret (pe_lc rfl sc_held.nd (own := [("cell", 1)]) (pi_listK (K := K) rfl (pe_fldK (K := K) rfl (pv 0) rfl)) (blkOk_by (by show blkC ["stock", "cell"] (defScope s_held) _ _ = true; decide +kernel)) (fun _ _ _ _ _ => (pg_name (i := 1) sc_held.nd rfl (by first | exact Or.inl rfl | exact Or.inr rfl))) (fun _ _ _ _ _ => pts_nil) (fun _ _ _ _ _ => (pe_fldK (K := K) rfl (pv 1) rfl))))), ?_⟩
    obtain ⟨dx, fs, hst, f⟩ := R.st
    refine ⟨_, rfl, st, _, dx, fs, _, rfl, hst, T.C_Stock, T.n_Stock_cells, f.cells, L.cl, rfl, ⟨_, SqL.of R.cl⟩, fun D hD => ?_⟩
    refine lc_list (xs := L.as.map V.ref) (fun j H2 => Same H H2 ∧ H2 D = some (.lst (nvs ((hsOf y).take j)))) ⟨(Same.refl _).laid hD, upd_same⟩ (fun j H2 _ q => SqL.of (q.1 _ _ R.cl)) ?_ ?_
    · rintro j x H2 hx ⟨s2, h2⟩
      obtain ⟨a, ha, rfl⟩ := refs_get hx
      obtain ⟨x, hx', dc, fc, hc, c⟩ := paired_get R.cells ha
      refine ⟨rfl, _, rfl, a, _, dc, fc, _, rfl, s2 _ _ hc, T.C_Cell, T.n_Cell_holds, c.holds, _, h2, ?_, s2.put hD, ?_⟩
      · rw [nvs_len, List.length_take, sizeLine_eq]
        have : (hsOf y).length = y.cells.length := by simp [hsOf]
        omega
      · rw [upd_same, take_snoc (l := hsOf y) (x := x.holds) (by simp [hsOf, hx']), nvs_app]
        rfl
    · rintro H2 ⟨s2, h2⟩
      rw [List.length_map, R.len, List.take_of_length_le (by simp [hsOf])] at h2
      exact k _ _ s2 hD h2
end
end CP
end

section
set_option Elab.async false
set_option linter.all false
set_option maxRecDepth 100000
set_option maxHeartbeats 1000000
namespace CP
open PySem PySem.Spec PyProof.Rows L2
/-! ### the least free number -/
theorem findIdx_none {α : Type} (l : List (Option α)) : l.getD ((l.findIdx? Option.isNone).getD l.length) none = none := by
  cases e : l.findIdx? Option.isNone with
  | none => simp [List.getD]
  | some i =>
    obtain ⟨h, h1, _⟩ := List.findIdx?_eq_some_iff_getElem.mp e
    show l.getD i none = none
    rw [List.getD_eq_getElem?_getD, List.getElem?_eq_getElem h]
    simpa using h1
theorem slot_none {α : Type} (l : List (Option α)) : l.getD (Kqb4.slot l) none = none := findIdx_none l
theorem slot_le {α : Type} {l : List (Option α)} {n : Nat} (h : l.getD n none = none) : Kqb4.slot l ≤ n := by
  unfold Kqb4.slot
  cases e : l.findIdx? Option.isNone with
  | none =>
    show l.length ≤ n
    by_cases hn : n < l.length
    · have := List.findIdx?_eq_none_iff.mp e l[n] (List.getElem_mem hn)
      rw [List.getD_eq_getElem?_getD, List.getElem?_eq_getElem hn] at h
      have h : l[n] = none := h
      rw [h] at this
      simp at this
    · omega
  | some i =>
    show i ≤ n
    obtain ⟨hi, h1, h2⟩ := List.findIdx?_eq_some_iff_getElem.mp e
    by_cases hn : n < i
    · have := h2 n hn
      rw [List.getD_eq_getElem?_getD, List.getElem?_eq_getElem (by omega)] at h
      have h : l[n] = none := h
      simp [h] at this
    · omega
theorem slot_len {α : Type} (l : List (Option α)) : Kqb4.slot l ≤ l.length := slot_le (by simp [List.getD])
theorem getD_some {α : Type} {l : List (Option α)} {n : Nat} {q : α} : l.getD n none = some q ↔ l[n]? = some (some q) := by
  rw [List.getD_eq_getElem?_getD]
  cases l[n]? with
  | none => simp
  | some v => simp
/-! ### the packs' dict -/
abbrev kvsOf (ps : List (Nat × Addr × Addr)) : List (Key × V) := ps.map fun p => (Sum.inl (p.1 : Int), V.ref p.2.1)
theorem kvs_val {n : Nat} {a l : Addr} : ∀ {ps : List (Nat × Addr × Addr)}, (ps.map (·.1)).Nodup → (n, a, l) ∈ ps → valV (kvsOf ps) (Sum.inl (n : Int)) = some (.ref a)
  | [], _, h => by simp at h
  | p :: ps, nd, h => by
    obtain ⟨n1, n2⟩ := List.nodup_cons.mp (show (p.1 :: ps.map (·.1)).Nodup from nd)
    rcases List.mem_cons.mp h with rfl | h
    · exact valV_pos rfl
    · have hne : ¬ (Sum.inl (p.1 : Int) : Key) = Sum.inl (n : Int) := fun e => by
        have e' : (p.1 : Int) = (n : Int) := Sum.inl.inj e
        have : p.1 = n := by omega
        exact n1 (this ▸ List.mem_map.mpr ⟨_, h, rfl⟩)
      exact (valV_neg (p := (Sum.inl (p.1 : Int), V.ref p.2.1)) hne).trans (kvs_val n2 h)
theorem kvs_none {n : Nat} : ∀ {ps : List (Nat × Addr × Addr)}, (∀ p ∈ ps, p.1 ≠ n) → valV (kvsOf ps) (Sum.inl (n : Int)) = none
  | [], _ => rfl
  | p :: ps, h => by
    have hne : ¬ (Sum.inl (p.1 : Int) : Key) = Sum.inl (n : Int) := fun e => by
      have e' : (p.1 : Int) = (n : Int) := Sum.inl.inj e
      exact h p (by simp) (by omega)
    exact (valV_neg (p := (Sum.inl (p.1 : Int), V.ref p.2.1)) hne).trans (kvs_none fun q hq => h q (by simp [hq]))
section
variable {A : Ad} {H H' : Hp} {st : Addr} {y : Kqb4.Shop} {L : Loca}
theorem Rep.val (r : Rep A H st y L) {n : Nat} {q : List (List Nat)} (h : y.packs.getD n none = some q) : ∃ a l, (n, a, l) ∈ L.ps ∧ valV (kvsOf L.ps) (Sum.inl (n : Int)) = some (.ref a) ∧ PackAt A H a l q := by
  have h' := getD_some.mp h
  obtain ⟨a, l, hm⟩ := r.all n q h'
  obtain ⟨q', hq', pa⟩ := r.packs _ hm
  rw [h'] at hq'
  cases hq'
  exact ⟨a, l, hm, kvs_val r.knd hm, pa⟩
theorem Rep.noval (r : Rep A H st y L) {n : Nat} (h : y.packs.getD n none = none) : valV (kvsOf L.ps) (Sum.inl (n : Int)) = none :=
  kvs_none fun p hp e => by
    obtain ⟨q, hq, _⟩ := r.packs p hp
    rw [e] at hq
    rw [getD_some.mpr hq] at h
    cases h
theorem Rep.isSome (r : Rep A H st y L) (n : Nat) : (valV (kvsOf L.ps) (Sum.inl (n : Int))).isSome = (y.packs.getD n none).isSome := by
  cases e : y.packs.getD n none with
  | none => rw [r.noval e]; rfl
  | some q =>
    obtain ⟨a, l, _, h, _⟩ := r.val e
    rw [h]; rfl
/-! ### what may change in a shop -/
def Foot (L : Loca) (b : Addr) : Prop := b ∈ L.as ∨ b = L.pk ∨ b = L.cl ∨ b ∈ L.ps.map (·.2.1) ∨ b ∈ L.ps.map (·.2.2)
theorem Rep.tracked (r : Rep A H st y L) {b : Addr} (h : Foot L b) : ∃ o, H b = some o := by
  rcases h with h | h | h | h | h
  · obtain ⟨i, hi, e⟩ := List.mem_iff_getElem.mp h
    obtain ⟨x, _, dx, fs, hc, _⟩ := paired_get r.cells (List.getElem?_eq_getElem hi)
    exact ⟨_, e ▸ hc⟩
  · exact ⟨_, h ▸ r.pk⟩
  · exact ⟨_, h ▸ r.cl⟩
  · obtain ⟨p, hp, rfl⟩ := List.mem_map.mp h
    obtain ⟨q, _, ⟨dx, fs, h1, _⟩, _⟩ := r.packs p hp
    exact ⟨_, h1⟩
  · obtain ⟨p, hp, rfl⟩ := List.mem_map.mp h
    obtain ⟨q, _, _, h1⟩ := r.packs p hp
    exact ⟨_, h1⟩
/-- the classes differ -/
structure Cne (A : Ad) : Prop where
  cs : A.c_Cell ≠ A.c_Stock
  cp : A.c_Cell ≠ A.c_Pack
  ps : A.c_Pack ≠ A.c_Stock
theorem ins_ne {H : Hp} {a b C D dx dy : Addr} {fs gs : List (Str × V)} (h1 : H a = some (.ins C dx fs)) (h2 : H b = some (.ins D dy gs)) (h : C ≠ D) : a ≠ b := fun e => by
  rw [e, h2] at h1
  cases h1
  exact h rfl
/-- a cell's values change -/
theorem Rep.setCell (N : Cne A) (r : Rep A H st y L) {i : Nat} {a : Addr} {x' : Kqb4.Cell} (ha : L.as[i]? = some a) (hc : CellAt A H' a x') (kp : ∀ b o, H b = some o → b ≠ a → H' b = some o) :
    Rep A H' st { y with cells := y.cells.set i x' } L := by
  obtain ⟨x, hx, dx, fs, h0, c0⟩ := paired_get r.cells ha
  have nl : ∀ {b : Addr} {xs : List V}, H b = some (.lst xs) → b ≠ a := fun e z => by rw [z, h0] at e; cases e
  have nd' : ∀ {b : Addr} {kvs}, H b = some (.dK kvs) → b ≠ a := fun e z => by rw [z, h0] at e; cases e
  refine ⟨?_, kp _ _ r.bl (nl r.bl), kp _ _ r.cl (nl r.cl), ?_, r.nd, kp _ _ r.pk (nd' r.pk), fun p hp => ?_, r.all, r.knd, r.ind, r.lnd⟩
  · obtain ⟨ds, gs, hs, f⟩ := r.st
    exact ⟨ds, gs, kp _ _ hs (Ne.symm (ins_ne h0 hs N.cs)), f⟩
  · have key : ∀ {as : List Addr} {xs : List Kqb4.Cell} {i : Nat}, as.Nodup → as[i]? = some a → Paired (CellAt A H) as xs → Paired (CellAt A H') as (xs.set i x') := by
      intro as xs i nd ha q
      induction q generalizing i with
      | nil => simp at ha
      | @cons b x bs xs h t ih =>
        obtain ⟨n1, n2⟩ := List.nodup_cons.mp nd
        cases i with
        | zero =>
          have e : b = a := Option.some.inj ha
          subst e
          exact .cons hc (pair_keep (fun c hcm z ⟨dz, gz, hz, fz⟩ => ⟨dz, gz, kp _ _ hz (fun e => n1 (e ▸ hcm)), fz⟩) t)
        | succ i =>
          have ha' : bs[i]? = some a := by simpa using ha
          obtain ⟨dz, gz, hz, fz⟩ := h
          exact .cons ⟨dz, gz, kp _ _ hz (fun e => n1 (e ▸ List.mem_of_getElem? ha')), fz⟩ (ih n2 ha')
    exact key r.nd ha r.cells
  · obtain ⟨q, hq, ⟨dp, gp, hp1, f⟩, hl⟩ := r.packs p hp
    exact ⟨q, hq, ⟨dp, gp, kp _ _ hp1 (Ne.symm (ins_ne h0 hp1 N.cp)), f⟩, kp _ _ hl (nl hl)⟩
end
theorem Txt.cne {K : PySem.W.Frag} {mg : Str → Option Value} {A : Ad} (T : Txt K mg A) : Cne A := ⟨T.x_Cell_Stock, T.x_Cell_Pack, T.x_Pack_Stock⟩
end CP
end

section
set_option Elab.async false
set_option linter.all false
set_option maxRecDepth 100000
set_option maxHeartbeats 1000000
namespace CP
open PySem PySem.Spec PyProof.Rows L2
section
variable {P : Program} {w : World} {K : PySem.W.Frag} {mg : Str → Option Value} {base : Heap} {A : Ad}
def gradeN (bs : List Nat) (h : Nat) : Nat := (bs.filter fun b => decide (b ≤ h)).length
def spGrade (A : Ad) : Sp := fun vs H Q _ => ∃ (st c : Addr) (y : Kqb4.Shop) (L : Loca) (x : Kqb4.Cell), vs = [.ref st, .ref c] ∧ Rep A H st y L ∧ CellAt A H c x ∧ y.bounds.length ≤ 6 ∧
  ∀ H', Same H H' → Q (nv (gradeN y.bounds x.holds)) H'
theorem ok_grade_of (T : Txt K mg A) : FnOk P w K mg base CX0 1 A.f_grade_of A.fd_grade_of ["stock", "cell"] (spGrade A) := by
  refine T.F_grade_of.ok sc_grade_of (fun vs H Q E h => ?_) (fun cdv B outer s H vs Q E hr h => ?_)
  · obtain ⟨st, c, y, L, x, rfl, _⟩ := h
    rfl
  · obtain ⟨st, c, y, L, x, rfl, R, ⟨dc, fc, hc, cf⟩, h6, k⟩ := h
    refine ⟨_, (pss_one (ps_ret (pe_callB (len_seqK (K := K) rfl) (by rfl) T.b_len boot_len (pa_cons (pe_lc rfl sc_grade_of.nd (own := [("bound", 2)]) (pi_listK (K := K) rfl (pe_fldK (K := K) rfl (pv 0) rfl)) (blkOk_by (by show blkC ["stock", "cell", "bound"] (defScope s_grade_of) _ _ = true; decide +kernel)) (fun _ _ _ _ _ => (pg_name (i := 2) sc_grade_of.nd rfl (by first | exact Or.inl rfl | exact Or.inr rfl))) (fun _ _ _ _ _ => (pts_one (pt_cmpR op_ge (pe_fldK (K := K) rfl (pv 1) rfl) (pv 2) (nomark _)))) (fun _ _ _ _ _ => (pv 2))) pa_nil)))), ?_⟩
    obtain ⟨dx, fs, hst, f⟩ := R.st
    refine ⟨_, rfl, st, _, dx, fs, _, rfl, hst, T.C_Stock, T.n_Stock_bounds, f.bounds, L.bl, rfl, ⟨_, SqL.of R.bl⟩, fun D hD => ?_⟩
    refine lc_list (xs := nvs y.bounds) (fun j H2 => Same H H2 ∧ H2 D = some (.lst (nvs ((y.bounds.take j).filter fun b => decide (b ≤ x.holds))))) ⟨(Same.refl _).laid hD, upd_same⟩ (fun j H2 _ q => SqL.of (q.1 _ _ R.bl)) ?_ ?_
    · rintro j v H2 hv ⟨s2, h2⟩
      obtain ⟨b, hb, rfl⟩ := nvs_get hv
      refine ⟨rfl, _, rfl, c, _, dc, fc, _, rfl, s2 _ _ hc, T.C_Cell, T.n_Cell_holds, cf.holds, _, rfl, _, _, rfl, rfl, _, rfl, ?_⟩
      rw [take_snoc hb, List.filter_append]
      refine ite2 (fun h => ?_) (fun h => ?_)
      · have h : (b : Int) ≤ (x.holds : Int) := of_decide_eq_true h
        rw [List.filter_cons_of_pos (p := fun b => decide (b ≤ x.holds)) (decide_eq_true (show b ≤ x.holds by omega)), List.filter_nil, nvs_app]
        refine ⟨_, rfl, _, h2, ?_, s2.put hD, upd_same⟩
        rw [nvs_len, sizeLine_eq]
        have : ((y.bounds.take j).filter fun b => decide (b ≤ x.holds)).length ≤ y.bounds.length := Nat.le_trans (List.length_filter_le _ _) (by rw [List.length_take]; omega)
        omega
      · have h : ¬ (b : Int) ≤ (x.holds : Int) := fun e => h (decide_eq_true e)
        rw [List.filter_cons_of_neg (p := fun b => decide (b ≤ x.holds)) (by simp; omega), List.filter_nil, List.append_nil]
        exact ⟨s2, h2⟩
    · rintro H2 ⟨s2, h2⟩
      rw [nvs_len, List.take_length] at h2
      refine ⟨D, _, rfl, .inl (SqL.of h2), ?_⟩
      rw [nvs_len]
      exact k _ s2
def spFree (A : Ad) : Sp := fun vs H Q _ => ∃ (st : Addr) (y : Kqb4.Shop) (L : Loca), vs = [.ref st] ∧ Rep A H st y L ∧ Q (nv (Kqb4.slot y.packs)) H
theorem ok_free_number (T : Txt K mg A) : FnOk P w K mg base CX0 1 A.f_free_number A.fd_free_number ["stock"] (spFree A) := by
  refine T.F_free_number.ok sc_free_number (fun vs H Q E h => ?_) (fun cdv B outer s H vs Q E hr h => ?_)
  · obtain ⟨st, y, L, rfl, _⟩ := h
    rfl
  · obtain ⟨st, y, L, rfl, R, k⟩ := h
    have hu := hr.units
    have hu : (B.deeper (envOfC (Str.ofString "free_number") (defScope s_free_number) s.heap.objs.size A.f_free_number cdv)).units + 1 < cLine := by omega
    refine ⟨_, (pss_cons (ps_set (i := 1) sc_free_number.nd rfl (by first | exact Or.inl rfl | exact Or.inr rfl) pe_int)
      (pss_cons (ps_while PassesOwn.never (pt_cmp (pc_din hu (pv 1) (pe_fldK (K := K) rfl (pv 0) rfl)) (by with_unfolding_all rfl)) (pss_one (ps_aug (i := 1) sc_free_number.nd rfl (by first | exact Or.inl rfl | exact Or.inr rfl) pe_int ip_add)))
      (pss_one (ps_ret (pv 1))))), ?_⟩
    obtain ⟨dx, fs, hst, f⟩ := R.st
    refine while_by (fun σ H' => ∃ n : Nat, σ = [some (.ref st), some (nv n)] ∧ H' = H ∧ n ≤ Kqb4.slot y.packs) (fun σ _ => match σ with | [_, some (.int n)] => Kqb4.slot y.packs + 1 - n.toNat | _ => 0) ⟨0, rfl, rfl, Nat.zero_le _⟩ ?_ ?_
    · rintro σ H' ⟨n, rfl, rfl, hn⟩
      refine ⟨_, rfl, _, rfl, st, _, dx, fs, _, rfl, hst, T.C_Stock, T.n_Stock_packs, f.packs, L.pk, _, rfl, DGet.k (k := Sum.inl (n : Int)) R.pk, _, rfl, ?_⟩
      rw [R.isSome]
      refine ite2 (fun h => ?_) (fun h => ?_)
      · have hne : n ≠ Kqb4.slot y.packs := fun e => by rw [e, slot_none] at h; cases h
        refine ⟨_, rfl, _, _, rfl, rfl, ⟨n + 1, by rfl, rfl, by omega⟩, ?_⟩
        show Kqb4.slot y.packs + 1 - ((n : Int) + 1).toNat < Kqb4.slot y.packs + 1 - ((n : Int)).toNat
        omega
      · have e : n = Kqb4.slot y.packs := by
          have h' : y.packs.getD n none = none := by
            cases q : y.packs.getD n none with
            | none => rfl
            | some v => rw [q] at h; exact absurd rfl h
          have := slot_le h'
          omega
        subst e
        exact ⟨_, rfl, k⟩
    · rintro σ H Q Q' hq ⟨v, e1, v2, e2, a, C, dx, fs, v3, h1, h2, h3, h4, h5, b, o, h6, h7, c, h8, h9⟩
      exact ⟨v, e1, v2, e2, a, C, dx, fs, v3, h1, h2, h3, h4, h5, b, o, h6, h7, c, h8, hq _ _ h9⟩
/-! ### the classes' __init__ -/
def spCellI (A : Ad) : Sp := fun vs H Q _ => ∃ (p dx : Addr) (h r : Nat), vs = [.ref p, nv h, nv r] ∧ H p = some (.ins A.c_Cell dx []) ∧ ∀ H', CellAt A H' p ⟨h, r, 0, false⟩ → (∀ b o, H b = some o → b ≠ p → H' b = some o) → Q .non H'
theorem ok_Cell___init__ (T : Txt K mg A) : FnOk P w K mg base CX0 1 A.f_Cell___init__ A.fd_Cell___init__ ["self", "holds", "resists"] (spCellI A) := by
  refine T.F_Cell___init__.ok sc_Cell___init__ (fun vs H Q E h => ?_) (fun cdv B outer s H vs Q E hr h => ?_)
  · obtain ⟨p, dx, h, r, rfl, _⟩ := h
    rfl
  · obtain ⟨p, dx, h, r, rfl, hp, k⟩ := h
    refine ⟨_, (pss_cons (ps_fldK (K := K) rfl (pv 0) (pv 1) rfl)
      (pss_cons (ps_fldK (K := K) rfl (pv 0) (pv 2) rfl)
      (pss_cons (ps_fldK (K := K) rfl (pv 0) pe_non rfl)
      (pss_one (ps_fldK (K := K) rfl (pv 0) pe_bl rfl))))), ?_⟩
    refine ⟨_, rfl, _, rfl, p, _, dx, [], rfl, hp, T.C_Cell, T.n_Cell_holds, (by show 0 < 1000; decide), ?_⟩
    refine ⟨_, rfl, _, rfl, p, _, dx, _, rfl, upd_same, T.C_Cell, T.n_Cell_resists, ?_, ?_⟩
    · have := length_putF "holds" (nv h) []
      simp only [List.length_nil] at this
      omega
    refine ⟨_, rfl, p, _, dx, _, rfl, upd_same, T.C_Cell, T.n_Cell_pack, ?_, ?_⟩
    · have := length_putF "holds" (nv h) []
      have h2 := length_putF "resists" (nv r) (putF "holds" (nv h) [])
      simp only [List.length_nil] at this
      omega
    refine ⟨_, rfl, p, _, dx, _, rfl, upd_same, T.C_Cell, T.n_Cell_scrap, ?_, ?_⟩
    · have := length_putF "holds" (nv h) []
      have h2 := length_putF "resists" (nv r) (putF "holds" (nv h) [])
      have h3 := length_putF "pack" .non (putF "resists" (nv r) (putF "holds" (nv h) []))
      simp only [List.length_nil] at this
      omega
    exact k _ ⟨dx, _, upd_same, CellF.new h r⟩ fun b o e hb => by rw [upd_ne hb, upd_ne hb, upd_ne hb, upd_ne hb]; exact e
def spPackI (A : Ad) : Sp := fun vs H Q _ => ∃ (p dx l : Addr) (g : Nat), vs = [.ref p, nv g, .ref l] ∧ H p = some (.ins A.c_Pack dx []) ∧ ∀ H', (∃ fs, H' p = some (.ins A.c_Pack dx fs) ∧ PackF fs g l) → (∀ b o, H b = some o → b ≠ p → H' b = some o) → Q .non H'
theorem ok_Pack___init__ (T : Txt K mg A) : FnOk P w K mg base CX0 1 A.f_Pack___init__ A.fd_Pack___init__ ["self", "size", "cells"] (spPackI A) := by
  refine T.F_Pack___init__.ok sc_Pack___init__ (fun vs H Q E h => ?_) (fun cdv B outer s H vs Q E hr h => ?_)
  · obtain ⟨p, dx, l, g, rfl, _⟩ := h
    rfl
  · obtain ⟨p, dx, l, g, rfl, hp, k⟩ := h
    refine ⟨_, (pss_cons (ps_fldK (K := K) rfl (pv 0) (pv 1) rfl)
      (pss_one (ps_fldK (K := K) rfl (pv 0) (pv 2) rfl))), ?_⟩
    refine ⟨_, rfl, _, rfl, p, _, dx, [], rfl, hp, T.C_Pack, T.n_Pack_size, (by show 0 < 1000; decide), ?_⟩
    refine ⟨_, rfl, _, rfl, p, _, dx, _, rfl, upd_same, T.C_Pack, T.n_Pack_cells, ?_, ?_⟩
    · have := length_putF "size" (nv g) []
      simp only [List.length_nil] at this
      omega
    exact k _ ⟨_, upd_same, PackF.new g l⟩ fun b o e hb => by rw [upd_ne hb, upd_ne hb]; exact e
def spStockI (A : Ad) : Sp := fun vs H Q _ => ∃ (p dx bl : Addr), vs = [.ref p, .ref bl] ∧ H p = some (.ins A.c_Stock dx []) ∧
  ∀ H' cl pk, (∃ fs, H' p = some (.ins A.c_Stock dx fs) ∧ StockF fs bl cl pk) → H' cl = some (.lst []) → H' pk = some (.dK []) → H cl = none → H pk = none → (∀ b o, H b = some o → b ≠ p → H' b = some o) → Q .non H'
theorem ok_Stock___init__ (T : Txt K mg A) : FnOk P w K mg base CX0 1 A.f_Stock___init__ A.fd_Stock___init__ ["self", "bounds"] (spStockI A) := by
  refine T.F_Stock___init__.ok sc_Stock___init__ (fun vs H Q E h => ?_) (fun cdv B outer s H vs Q E hr h => ?_)
  · obtain ⟨p, dx, bl, rfl, _⟩ := h
    rfl
  · obtain ⟨p, dx, bl, rfl, hp, k⟩ := h
    refine ⟨_, (pss_cons (ps_fldK (K := K) rfl (pv 0) (pv 1) rfl)
      (pss_cons (ps_fldK (K := K) rfl (pv 0) (pe_lst pa_nil) rfl)
      (pss_one (ps_fldK (K := K) rfl (pv 0) pe_dnewK rfl)))), ?_⟩
    refine ⟨_, rfl, _, rfl, p, _, dx, [], rfl, hp, T.C_Stock, T.n_Stock_bounds, (by show 0 < 1000; decide), ?_⟩
    have keep1 : ∀ b o, H b = some o → b ≠ p → upd H p (.ins A.c_Stock dx (putF "bounds" (.ref bl) [])) b = some o := fun b o e hb => by rw [upd_ne hb]; exact e
    have hp1 : upd H p (.ins A.c_Stock dx (putF "bounds" (.ref bl) [])) p = some (.ins A.c_Stock dx (putF "bounds" (.ref bl) [])) := upd_same
    generalize upd H p (.ins A.c_Stock dx (putF "bounds" (.ref bl) [])) = H1 at keep1 hp1 ⊢
    refine ⟨Nat.zero_le _, fun cl hcl => ?_⟩
    have ncp : p ≠ cl := ne_of_none hp1 hcl
    refine ⟨_, rfl, p, _, dx, _, rfl, by rw [upd_ne ncp]; exact hp1, T.C_Stock, T.n_Stock_cells, ?_, ?_⟩
    · have := length_putF "bounds" (.ref bl) []
      simp only [List.length_nil] at this
      omega
    have keep2 : ∀ b o, H1 b = some o → b ≠ p → upd (upd H1 cl (.lst [])) p (.ins A.c_Stock dx (putF "cells" (.ref cl) (putF "bounds" (.ref bl) []))) b = some o := fun b o e hb => by rw [upd_ne hb, upd_ne (ne_of_none e hcl)]; exact e
    have hp2 : upd (upd H1 cl (.lst [])) p (.ins A.c_Stock dx (putF "cells" (.ref cl) (putF "bounds" (.ref bl) []))) p = some (.ins A.c_Stock dx (putF "cells" (.ref cl) (putF "bounds" (.ref bl) []))) := upd_same
    have hcl2 : upd (upd H1 cl (.lst [])) p (.ins A.c_Stock dx (putF "cells" (.ref cl) (putF "bounds" (.ref bl) []))) cl = some (.lst []) := by rw [upd_ne (Ne.symm ncp), upd_same]
    generalize upd (upd H1 cl (.lst [])) p (.ins A.c_Stock dx (putF "cells" (.ref cl) (putF "bounds" (.ref bl) []))) = H2 at keep2 hp2 hcl2 ⊢
    intro pk hpk
    have npp : p ≠ pk := ne_of_none hp2 hpk
    refine ⟨_, rfl, p, _, dx, _, rfl, by rw [upd_ne npp]; exact hp2, T.C_Stock, T.n_Stock_packs, ?_, ?_⟩
    · have h1 := length_putF "bounds" (.ref bl) []
      have h2 := length_putF "cells" (.ref cl) (putF "bounds" (.ref bl) [])
      simp only [List.length_nil] at h1
      omega
    refine k _ cl pk ⟨_, upd_same, StockF.new bl cl pk⟩ ?_ ?_ ?_ ?_ fun b o e hb => ?_
    · rw [upd_ne (Ne.symm ncp), upd_ne (ne_of_none hcl2 hpk)]; exact hcl2
    · rw [upd_ne (Ne.symm npp), upd_same]
    · cases q : H cl with
      | none => rfl
      | some o => rw [keep1 _ _ q (Ne.symm ncp)] at hcl; cases hcl
    · cases q : H pk with
      | none => rfl
      | some o => rw [keep2 _ _ (keep1 _ _ q (Ne.symm npp)) (Ne.symm npp)] at hpk; cases hpk
    · have e2 := keep2 _ _ (keep1 _ _ e hb) hb
      rw [upd_ne hb, upd_ne (ne_of_none e2 hpk)]; exact e2
end
end CP
end

section
set_option Elab.async false
set_option linter.all false
set_option maxRecDepth 100000
set_option maxHeartbeats 1000000
namespace CP
open PySem PySem.Spec PyProof.Rows L2
section
variable {P : Program} {w : World} {K : PySem.W.Frag} {mg : Str → Option Value} {base : Heap} {A : Ad}
/-! ### what is as told -/
def spCellOk : Sp := fun vs H Q _ => ∃ (h r : Nat), vs = [nv h, nv r] ∧ Q (.bl (Kqb4.okCell h r)) H
theorem ok_cell_as_told (T : Txt K mg A) : FnOk P w K mg base CX0 1 A.f_cell_as_told A.fd_cell_as_told ["holds", "resists"] spCellOk := by
  refine T.F_cell_as_told.ok sc_cell_as_told (fun vs H Q E h => ?_) (fun cdv B outer s H vs Q E hr h => ?_)
  · obtain ⟨h, r, rfl, _⟩ := h
    rfl
  · obtain ⟨h, r, rfl, k⟩ := h
    refine ⟨_, (pss_one (ps_ret (pe_and (pe_chain op_le op_le pe_int (pv 0) (pe_globI rfl T.m_MOST_HELD)) (pe_one (pe_chain op_le op_le pe_int (pv 1) (pe_globI rfl T.m_MOST_RESISTED)))))), ?_⟩
    have k' : ∀ b : Bool, b = Kqb4.okCell h r → Q (.bl b) H := fun b e => by rw [e]; exact k
    unfold Kqb4.okCell at k'
    refine ⟨_, rfl, _, _, rfl, rfl, _, rfl, ?_⟩
    refine ite2 (fun h1 => ?_) (fun h1 => ?_)
    · have h1 : (1 : Int) ≤ (h : Int) := of_decide_eq_true h1
      refine ⟨_, _, rfl, rfl, _, rfl, ?_⟩
      refine ite2 (fun h2 => ?_) (fun h2 => ?_)
      · have h2 : (h : Int) ≤ 10000 := of_decide_eq_true h2
        refine ⟨_, rfl, _, _, rfl, rfl, _, rfl, ?_⟩
        refine ite2 (fun h3 => ?_) (fun h3 => ?_)
        · have h3 : (1 : Int) ≤ (r : Int) := of_decide_eq_true h3
          refine ⟨_, _, rfl, rfl, k' _ ?_⟩
          rw [decide_eq_true (show 1 ≤ h by omega), decide_eq_true (show h ≤ 10000 by omega), decide_eq_true (show 1 ≤ r by omega)]
          exact decide_eq_decide.mpr (by omega)
        · have h3 : ¬ (1 : Int) ≤ (r : Int) := fun e => h3 (decide_eq_true e)
          exact k' _ (by rw [decide_eq_false (show ¬ 1 ≤ r by omega)]; simp)
      · have h2 : ¬ (h : Int) ≤ 10000 := fun e => h2 (decide_eq_true e)
        exact k' _ (by rw [decide_eq_false (show ¬ h ≤ 10000 by omega)]; simp)
    · have h1 : ¬ (1 : Int) ≤ (h : Int) := fun e => h1 (decide_eq_true e)
      exact ⟨_, rfl, k' _ (by rw [decide_eq_false (show ¬ 1 ≤ h by omega)]; simp)⟩
def spSizeOk : Sp := fun vs H Q _ => ∃ (r g : Nat), vs = [nv r, nv g] ∧ r < 4294967296 ∧ Q (.bl (Kqb4.okSize r g)) H
theorem ok_groups_as_told (T : Txt K mg A) : FnOk P w K mg base CX0 1 A.f_groups_as_told A.fd_groups_as_told ["groups", "size"] spSizeOk := by
  refine T.F_groups_as_told.ok sc_groups_as_told (fun vs H Q E h => ?_) (fun cdv B outer s H vs Q E hr h => ?_)
  · obtain ⟨h, r, rfl, _⟩ := h
    rfl
  · obtain ⟨r, g, rfl, hr32, k⟩ := h
    refine ⟨_, (pss_one (ps_ret (pe_and (pe_chain op_le op_le pe_int (pv 0) (pe_globI rfl T.m_MOST_GROUPS)) (pe_and (pe_chain op_le op_le pe_int (pv 1) (pe_globI rfl T.m_MOST_IN_GROUP)) (pe_one (pe_cmpR op_le (pe_op op_mul (pv 0) (pv 1)) (pe_globI rfl T.m_MOST_DEALT) (nomark _))))))), ?_⟩
    have k' : ∀ b : Bool, b = Kqb4.okSize r g → Q (.bl b) H := fun b e => by rw [e]; exact k
    unfold Kqb4.okSize at k'
    refine ⟨_, rfl, _, _, rfl, rfl, _, rfl, ?_⟩
    refine ite2 (fun h1 => ?_) (fun h1 => ?_)
    · have h1 : (1 : Int) ≤ (r : Int) := of_decide_eq_true h1
      refine ⟨_, _, rfl, rfl, _, rfl, ?_⟩
      refine ite2 (fun h2 => ?_) (fun h2 => ?_)
      · have h2 : (r : Int) ≤ 4 := of_decide_eq_true h2
        refine ⟨_, rfl, _, _, rfl, rfl, _, rfl, ?_⟩
        refine ite2 (fun h3 => ?_) (fun h3 => ?_)
        · have h3 : (1 : Int) ≤ (g : Int) := of_decide_eq_true h3
          refine ⟨_, _, rfl, rfl, _, rfl, ?_⟩
          refine ite2 (fun h4 => ?_) (fun h4 => ?_)
          · have h4 : (g : Int) ≤ 4 := of_decide_eq_true h4
            refine ⟨_, rfl, _, rfl, _, _, rfl, rfl, .inl ⟨by omega, by omega⟩, _, _, rfl, rfl, k' _ ?_⟩
            rw [decide_eq_true (show 1 ≤ r by omega), decide_eq_true (show r ≤ 4 by omega), decide_eq_true (show 1 ≤ g by omega), decide_eq_true (show g ≤ 4 by omega)]
            have e : (r : Int) * (g : Int) = ((r * g : Nat) : Int) := (Int.natCast_mul r g).symm
            show decide ((r : Int) * (g : Int) ≤ 8) = _
            rw [e]
            exact decide_eq_decide.mpr (by omega)
          · have h4 : ¬ (g : Int) ≤ 4 := fun e => h4 (decide_eq_true e)
            exact k' _ (by rw [decide_eq_false (show ¬ g ≤ 4 by omega)]; simp)
        · have h3 : ¬ (1 : Int) ≤ (g : Int) := fun e => h3 (decide_eq_true e)
          exact ⟨_, rfl, k' _ (by rw [decide_eq_false (show ¬ 1 ≤ g by omega)]; simp)⟩
      · have h2 : ¬ (r : Int) ≤ 4 := fun e => h2 (decide_eq_true e)
        exact k' _ (by rw [decide_eq_false (show ¬ r ≤ 4 by omega)]; simp)
    · have h1 : ¬ (1 : Int) ≤ (r : Int) := fun e => h1 (decide_eq_true e)
      exact ⟨_, rfl, k' _ (by rw [decide_eq_false (show ¬ 1 ≤ r by omega)]; simp)⟩
def spHas (A : Ad) : Sp := fun vs H Q _ => ∃ (st : Addr) (y : Kqb4.Shop) (L : Loca) (i : Nat), vs = [.ref st, nv i] ∧ Rep A H st y L ∧ Q (.bl (decide (i < y.cells.length))) H
theorem ok_has_cell (T : Txt K mg A) : FnOk P w K mg base CX0 1 A.f_has_cell A.fd_has_cell ["stock", "i"] (spHas A) := by
  refine T.F_has_cell.ok sc_has_cell (fun vs H Q E h => ?_) (fun cdv B outer s H vs Q E hr h => ?_)
  · obtain ⟨st, y, L, i, rfl, _⟩ := h
    rfl
  · obtain ⟨st, y, L, i, rfl, R, k⟩ := h
    refine ⟨_, (pss_one (ps_ret (pe_cmpR op_lt (pv 1) (pe_callB (len_seqK (K := K) rfl) (by rfl) T.b_len boot_len (pa_cons (pe_fldK (K := K) rfl (pv 0) rfl) pa_nil)) (nomark _)))), ?_⟩
    obtain ⟨dx, fs, hst, f⟩ := R.st
    refine ⟨_, rfl, _, rfl, st, _, dx, fs, _, rfl, hst, T.C_Stock, T.n_Stock_cells, f.cells, L.cl, _, rfl, .inl (SqL.of R.cl), _, _, rfl, rfl, ?_⟩
    have k' : ∀ b : Bool, b = decide (i < y.cells.length) → Q (.bl b) H := fun b e => by rw [e]; exact k
    refine k' _ ?_
    rw [List.length_map, R.len]
    exact decide_eq_decide.mpr (by omega)
def refL (y : Kqb4.Shop) (i : Nat) : Int := match y.cells[i]? with
  | none => -2
  | some x => if isL x = true then 0 else -16
def spRefL (A : Ad) : Sp := fun vs H Q _ => ∃ (st : Addr) (y : Kqb4.Shop) (L : Loca) (i : Nat), vs = [.ref st, nv i] ∧ Rep A H st y L ∧ Q (.int (refL y i)) H
theorem ok_loose_refusal (T : Txt K mg A) : FnOk P w K mg base CX0 2 A.f_loose_refusal A.fd_loose_refusal ["stock", "i"] (spRefL A) := by
  have G_has_cell := ok_has_cell (P := P) (w := w) (base := base) T
  have G_is_loose := ok_is_loose (P := P) (w := w) (base := base) T
  refine T.F_loose_refusal.ok sc_loose_refusal (fun vs H Q E h => ?_) (fun cdv B outer s H vs Q E hr h => ?_)
  · obtain ⟨st, y, L, i, rfl, _⟩ := h
    rfl
  · obtain ⟨st, y, L, i, rfl, R, k⟩ := h
    refine ⟨_, (pss_cons (ps_if (pt_not (pt_truthK (K := K) rfl (pe_call G_has_cell (hr.mono (by decide)) rfl T.m_has_cell T.F_has_cell.kp T.b_has_cell .nil pass0 (pa_cons (pv 0) (pa_cons (pv 1) pa_nil))) (fun _ => rfl))) (pss_one (ps_ret (pe_globI rfl T.m_NO_SUCH))) pss_nil)
      (pss_cons (ps_if (pt_not (pt_truthK (K := K) rfl (pe_call G_is_loose (hr.mono (by decide)) rfl T.m_is_loose T.F_is_loose.kp T.b_is_loose .nil pass0 (pa_cons (pe_ix (ix_listK (K := K) rfl) (pe_fldK (K := K) rfl (pv 0) rfl) (pv 1) (fun _ _ => rfl)) pa_nil)) (fun _ => rfl))) (pss_one (ps_ret (pe_globI rfl T.m_NOT_LOOSE))) pss_nil)
      (pss_one (ps_ret pe_int)))), ?_⟩
    obtain ⟨dx, fs, hst, f⟩ := R.st
    refine ⟨_, rfl, _, rfl, st, y, L, i, rfl, R, _, rfl, ?_⟩
    unfold refL at k
    cases e : y.cells[i]? with
    | none =>
      rw [e] at k
      have hi : ¬ i < y.cells.length := fun h => by rw [List.getElem?_eq_getElem h] at e; cases e
      rw [decide_eq_false hi]
      exact k
    | some x =>
      rw [e] at k
      have hi : i < y.cells.length := (List.getElem?_eq_some_iff.mp e).1
      rw [decide_eq_true hi]
      obtain ⟨a, ha, c⟩ := R.cell e
      refine ⟨_, rfl, st, _, dx, fs, _, rfl, hst, T.C_Stock, T.n_Stock_cells, f.cells, _, rfl, L.cl, _, _, _, rfl, rfl, SqL.of R.cl, at_of (j := i) rfl (refs_at ha), a, x, rfl, c, _, rfl, ?_⟩
      have k : Q (V.int (if isL x = true then 0 else -16)) H := k
      cases hl : isL x with
      | true =>
        rw [hl] at k
        exact k
      | false =>
        rw [hl] at k
        exact k
def refD (y : Kqb4.Shop) (r g : Nat) : Int := if Kqb4.okSize r g = false then -22 else if (Kqb4.loose y).length < r * g then -12 else 0
def spRefD (A : Ad) : Sp := fun vs H Q _ => ∃ (st : Addr) (y : Kqb4.Shop) (L : Loca) (r g : Nat), vs = [.ref st, nv r, nv g] ∧ Rep A H st y L ∧ y.cells.length ≤ 24 ∧ r < 4294967296 ∧ ∀ H', Same H H' → Q (.int (refD y r g)) H'
theorem ok_dealing_refusal (T : Txt K mg A) : FnOk P w K mg base CX0 3 A.f_dealing_refusal A.fd_dealing_refusal ["stock", "groups", "size"] (spRefD A) := by
  have G_groups_as_told := ok_groups_as_told (P := P) (w := w) (base := base) T
  have G_loose_cells := ok_loose_cells (P := P) (w := w) (base := base) T
  refine T.F_dealing_refusal.ok sc_dealing_refusal (fun vs H Q E h => ?_) (fun cdv B outer s H vs Q E hr h => ?_)
  · obtain ⟨st, y, L, r, g, rfl, _⟩ := h
    rfl
  · obtain ⟨st, y, L, r, g, rfl, R, h24, hr32, k⟩ := h
    refine ⟨_, (pss_cons (ps_if (pt_not (pt_truthK (K := K) rfl (pe_call G_groups_as_told (hr.mono (by decide)) rfl T.m_groups_as_told T.F_groups_as_told.kp T.b_groups_as_told .nil pass0 (pa_cons (pv 1) (pa_cons (pv 2) pa_nil))) (fun _ => rfl))) (pss_one (ps_ret (pe_globI rfl T.m_NOT_AS_TOLD))) pss_nil)
      (pss_cons (ps_if (pt_cmpR op_lt (pe_callB (len_seqK (K := K) rfl) (by rfl) T.b_len boot_len (pa_cons (pe_call G_loose_cells (hr.mono (by decide)) rfl T.m_loose_cells T.F_loose_cells.kp T.b_loose_cells .nil pass0 (pa_cons (pv 0) pa_nil)) pa_nil)) (pe_op op_mul (pv 1) (pv 2)) (nomark _)) (pss_one (ps_ret (pe_globI rfl T.m_TOO_FEW))) pss_nil)
      (pss_one (ps_ret pe_int)))), ?_⟩
    refine ⟨_, rfl, _, rfl, r, g, rfl, hr32, _, rfl, ?_⟩
    unfold refD at k
    cases hs : Kqb4.okSize r g with
    | false =>
      rw [hs] at k
      exact k _ (Same.refl _)
    | true =>
      rw [hs, if_neg (by decide)] at k
      refine ⟨_, rfl, st, y, L, rfl, R, h24, fun H1 p s1 hp h1 => ?_⟩
      refine ⟨p, _, rfl, .inl (SqL.of h1), _, rfl, _, rfl, _, _, rfl, rfl, .inl ⟨by omega, by omega⟩, _, _, rfl, rfl, _, rfl, ?_⟩
      rw [nvs_len]
      have e : (r : Int) * (g : Int) = ((r * g : Nat) : Int) := (Int.natCast_mul r g).symm
      refine ite2 (fun h => ?_) (fun h => ?_)
      · have h : ((Kqb4.loose y).length : Int) < (r : Int) * (g : Int) := of_decide_eq_true h
        rw [if_pos (by omega)] at k
        exact k _ s1
      · have h : ¬ ((Kqb4.loose y).length : Int) < (r : Int) * (g : Int) := fun z => h (decide_eq_true z)
        rw [if_neg (by omega)] at k
        exact k _ s1
theorem okSize_is {r g : Nat} (h : Kqb4.okSize r g = true) : 0 < r ∧ r ≤ 4 ∧ 0 < g ∧ g ≤ 4 ∧ r * g ≤ 8 := by
  unfold Kqb4.okSize at h
  simp only [Bool.and_eq_true, decide_eq_true_eq] at h
  obtain ⟨⟨⟨⟨h1, h2⟩, h3⟩, h4⟩, h5⟩ := h
  exact ⟨h1, h2, h3, h4, h5⟩
def spBestL (A : Ad) : Sp := fun vs H Q _ => ∃ (st : Addr) (y : Kqb4.Shop) (L : Loca) (r g : Nat) (q : List (List Nat)), vs = [.ref st, nv r, nv g] ∧ Rep A H st y L ∧ y.cells.length ≤ 24 ∧ (Kqb4.loose y).length ≤ 8 ∧ Kqb4.okSize r g = true ∧ Kqb4.match_ y r g = some q ∧
  ∀ H' p, Same H H' → H p = none → H' p = some (.lst (nvs q.flatten)) → Q (.ref p) H'
theorem ok_best_of_loose (T : Txt K mg A) : FnOk P w K mg base CX0 4 A.f_best_of_loose A.fd_best_of_loose ["stock", "groups", "size"] (spBestL A) := by
  have G_best_dealing := ok_best_dealing (P := P) (w := w) (base := base) T
  have G_held := ok_held (P := P) (w := w) (base := base) T
  have G_loose_cells := ok_loose_cells (P := P) (w := w) (base := base) T
  refine T.F_best_of_loose.ok sc_best_of_loose (fun vs H Q E h => ?_) (fun cdv B outer s H vs Q E hr h => ?_)
  · obtain ⟨st, y, L, r, g, q, rfl, _⟩ := h
    rfl
  · obtain ⟨st, y, L, r, g, q, rfl, R, h24, h8, hs, hm, k⟩ := h
    obtain ⟨r0, r4, g0, g4, rg⟩ := okSize_is hs
    refine ⟨_, (pss_one (ps_ret (pe_call G_best_dealing (hr.mono (by decide)) rfl T.m_best_dealing T.F_best_dealing.kp T.b_best_dealing .nil pass0 (pa_cons (pe_call G_loose_cells (hr.mono (by decide)) rfl T.m_loose_cells T.F_loose_cells.kp T.b_loose_cells .nil pass0 (pa_cons (pv 0) pa_nil)) (pa_cons (pv 1) (pa_cons (pv 2) (pa_cons (pe_call G_held (hr.mono (by decide)) rfl T.m_held T.F_held.kp T.b_held .nil pass0 (pa_cons (pv 0) pa_nil)) pa_nil))))))), ?_⟩
    refine ⟨_, rfl, st, y, L, rfl, R, h24, fun H1 a s1 ha h1 => ?_⟩
    refine ⟨_, rfl, _, rfl, _, rfl, st, y, L, rfl, R.same s1, h24, fun H2 b s2 hb h2 => ?_⟩
    refine ⟨a, b, Kqb4.loose y, hsOf y, r, g, rfl, SqL.of (s2 _ _ h1), SqL.of h2, g0, r0, rg, h8, fun i hi => ?_, fun H3 v s3 hB => ?_⟩
    · have := loose_mem hi
      simpa [hsOf] using this
    · have e : bestF g (hsOf y) (grown (Kqb4.loose y) g (r * g)) = some q.flatten := (match_flat g0 y r).trans (by rw [hm]; rfl)
      rw [e] at hB
      obtain ⟨p, rfl, hp, fp⟩ := hB
      exact k _ _ (s1.trans (s2.trans s3)) ((s1.trans s2).free fp) hp
end
end CP
end

section
set_option Elab.async false
set_option linter.all false
set_option maxRecDepth 100000
set_option maxHeartbeats 1000000
namespace CP
open PySem PySem.Spec PyProof.Rows L2
section
variable {P : Program} {w : World} {K : PySem.W.Frag} {mg : Str → Option Value} {base : Heap} {A : Ad}
/-! ### bounds -/
def stepOk (bs : List Nat) (i : Nat) : Prop := ∀ b, bs[i]? = some b → b ≤ 10000 ∧ ∀ j c, i = j + 1 → bs[j]? = some c → c < b
theorem zip_all : ∀ (bs : List Nat), (bs.zip (bs.drop 1)).all (fun p => decide (p.1 < p.2)) = true ↔ ∀ j b c, bs[j]? = some c → bs[j + 1]? = some b → c < b
  | [] => by simp
  | [a] => by simp
  | a :: b :: l => by
    have ih := zip_all (b :: l)
    show ((decide (a < b)) && ((b :: l).zip ((b :: l).drop 1)).all (fun p => decide (p.1 < p.2))) = true ↔ _
    rw [Bool.and_eq_true, ih, decide_eq_true_eq]
    constructor
    · rintro ⟨h1, h2⟩ j b' c' hc hb
      cases j with
      | zero =>
        have e1 : a = c' := Option.some.inj hc
        have e2 : b = b' := Option.some.inj hb
        omega
      | succ j => exact h2 j b' c' (by simpa using hc) (by simpa using hb)
    · intro h
      exact ⟨h 0 b a rfl rfl, fun j b' c' hc hb => h (j + 1) b' c' (by simpa using hc) (by simpa using hb)⟩
theorem okBounds_iff (bs : List Nat) : Kqb4.okBounds bs = true ↔ bs.length ≤ 6 ∧ ∀ i, stepOk bs i := by
  unfold Kqb4.okBounds
  rw [Bool.and_eq_true, Bool.and_eq_true, zip_all, decide_eq_true_eq, List.all_eq_true]
  constructor
  · rintro ⟨⟨h1, h2⟩, h3⟩
    refine ⟨h1, fun i b hb => ⟨by simpa using h2 b (List.mem_of_getElem? hb), fun j c e hc => ?_⟩⟩
    subst e
    exact h3 j b c hc hb
  · rintro ⟨h1, h2⟩
    refine ⟨⟨h1, fun b hb => ?_⟩, fun j b c hc hb => (h2 (j + 1) b hb).2 j c rfl hc⟩
    obtain ⟨i, hi, e⟩ := List.mem_iff_getElem.mp hb
    have := (h2 i b (by rw [List.getElem?_eq_getElem hi, e])).1
    simpa using this
def spBounds (K : PySem.W.Frag) : Sp := fun vs H Q _ => ∃ (a : Addr) (bs : List Nat), vs = [.ref a] ∧ SqL K H a (nvs bs) ∧ ∀ H', Same H H' → Q (.bl (Kqb4.okBounds bs)) H'
theorem ok_bounds_as_told (T : Txt K mg A) : FnOk P w K mg base CX0 1 A.f_bounds_as_told A.fd_bounds_as_told ["bounds"] (spBounds K) := by
  refine T.F_bounds_as_told.ok sc_bounds_as_told (fun vs H Q E h => ?_) (fun cdv B outer s H vs Q E hr h => ?_)
  · obtain ⟨a, bs, rfl, _⟩ := h
    rfl
  · obtain ⟨a, bs, rfl, ha, k⟩ := h
    refine ⟨_, (pss_cons (ps_if (pt_cmpR op_gt (pe_callB (len_seqK (K := K) rfl) (by rfl) T.b_len boot_len (pa_cons (pv 0) pa_nil)) (pe_globI rfl T.m_MOST_BOUNDS) (nomark _)) (pss_one (ps_ret pe_bl)) pss_nil)
      (pss_cons (ps_for PassesOwn.never rfl (pi_enumK (K := K) rfl rfl T.b_enumerate (pa_cons (pv 0) pa_nil)) (pg_tupK (K := K) (n := 2) rfl rfl (pgs_cons (pg_name (i := 1) sc_bounds_as_told.nd rfl (by first | exact Or.inl rfl | exact Or.inr rfl)) (pgs_cons (pg_name (i := 2) sc_bounds_as_told.nd rfl (by first | exact Or.inl rfl | exact Or.inr rfl)) pgs_nil))) (pss_cons (ps_if (pt_cmpR op_gt (pv 2) (pe_globI rfl T.m_MOST_HELD) (nomark _)) (pss_one (ps_ret pe_bl)) pss_nil)
      (pss_one (ps_if (PW.pt (pw_and (pt_cmpR op_gt (pv 1) pe_int (nomark _)) (pw_and1 (pt_cmpR op_le (pv 2) (pe_ix (ix_listK (K := K) rfl) (pv 0) (pe_op op_sub (pv 1) pe_int) (fun _ _ => rfl)) (nomark _))))) (pss_one (ps_ret pe_bl)) pss_nil))))
      (pss_one (ps_ret pe_bl)))), ?_⟩
    have kF : ¬ (bs.length ≤ 6 ∧ ∀ i, stepOk bs i) → ∀ H', Same H H' → Q (.bl false) H' := fun h H' s => by
      have e : Kqb4.okBounds bs = false := by
        cases q : Kqb4.okBounds bs with
        | false => rfl
        | true => exact absurd ((okBounds_iff bs).mp q) h
      rw [← e]
      exact k _ s
    refine ⟨_, rfl, a, _, rfl, .inl ha, _, _, rfl, rfl, _, rfl, ?_⟩
    rw [nvs_len]
    refine ite2 (fun h => ?_) (fun h => ?_)
    · have h : (6 : Int) < (bs.length : Int) := of_decide_eq_true h
      exact kF (fun q => by omega) _ (Same.refl _)
    · have h : ¬ (6 : Int) < (bs.length : Int) := fun e => h (decide_eq_true e)
      refine ⟨_, rfl, a, _, rfl, ha, ?_⟩
      refine for_enum (xs := nvs bs) (fun j σ H2 => ∃ v1 v2, σ = [some (.ref a), v1, v2] ∧ Same H H2 ∧ ∀ i, i < j → stepOk bs i) ⟨none, none, rfl, Same.refl _, fun i hi => absurd hi (by omega)⟩ (fun j σ H2 _ ⟨_, _, _, s2, _⟩ => s2.seq ha) ?_ ?_
      · rintro j x σ H2 U hx ⟨v1, v2, rfl, s2, ok⟩ hU
        obtain ⟨b, hb, rfl⟩ := nvs_get hx
        have s3 : Same H (upd H2 U (.tup [.int (j : Nat), nv b])) := s2.laid hU
        refine ⟨U, _, rfl, SqT.of upd_same, rfl, _, _, rfl, _, _, rfl, rfl, _, rfl, _, _, rfl, rfl, _, rfl, ?_⟩
        refine ite2 (fun h1 => ?_) (fun h1 => ?_)
        · have h1 : (10000 : Int) < (b : Int) := of_decide_eq_true h1
          exact kF (fun q => by have := (q.2 j b hb).1; omega) _ s3
        · have h1 : ¬ (10000 : Int) < (b : Int) := fun e => h1 (decide_eq_true e)
          refine ⟨_, rfl, _, _, rfl, rfl, _, rfl, ?_⟩
          refine ite2 (fun h2 => ?_) (fun h2 => ?_)
          · have h2 : (0 : Int) < (j : Int) := of_decide_eq_true h2
            obtain ⟨j', rfl⟩ : ∃ j', j = j' + 1 := ⟨j - 1, by omega⟩
            have hjl : j' + 1 < bs.length := (List.getElem?_eq_some_iff.mp hb).1
            obtain ⟨c, hc⟩ : ∃ c, bs[j']? = some c := ⟨_, List.getElem?_eq_getElem (by omega)⟩
            refine ⟨_, rfl, _, rfl, _, rfl, _, _, rfl, rfl, a, _, _, _, rfl, rfl, s3.seq ha, at_of (j := j') (by omega) (nvs_at hc), _, _, rfl, rfl, _, rfl, ?_⟩
            refine ite2 (fun h3 => ?_) (fun h3 => ?_)
            · have h3 : (b : Int) ≤ (c : Int) := of_decide_eq_true h3
              exact kF (fun q => by have := (q.2 (j' + 1) b hb).2 j' c rfl hc; omega) _ s3
            · have h3 : ¬ (b : Int) ≤ (c : Int) := fun e => h3 (decide_eq_true e)
              refine ⟨_, _, rfl, s3, fun i hi => ?_⟩
              by_cases e : i = j' + 1
              · subst e
                intro b' hb'
                rw [hb] at hb'
                cases hb'
                refine ⟨by omega, fun j c' e hc' => ?_⟩
                have : j = j' := by omega
                subst this
                rw [hc] at hc'
                cases hc'
                omega
              · exact ok i (by omega)
          · have h2 : ¬ (0 : Int) < (j : Int) := fun e => h2 (decide_eq_true e)
            refine ⟨_, _, rfl, s3, fun i hi => ?_⟩
            have : i = 0 := by omega
            subst this
            have : j = 0 := by omega
            subst this
            intro b' hb'
            rw [hb] at hb'
            cases hb'
            exact ⟨by omega, fun j c e _ => by omega⟩
      · rintro σ H2 ⟨v1, v2, rfl, s2, ok⟩
        rw [nvs_len] at ok
        have e : Kqb4.okBounds bs = true := (okBounds_iff bs).mpr ⟨by omega, fun i => by
          by_cases hi : i < bs.length
          · exact ok i hi
          · intro b hb
            exact absurd (List.getElem?_eq_some_iff.mp hb).1 hi⟩
        rw [e] at k
        exact k _ s2
/-! ### the calls' own defs: what each answers, what becomes of the shop -/
/-- what a call's def has to reach -/
def Act (A : Ad) (H : Hp) (st : Addr) (L : Loca) (y : Kqb4.Shop) (c : Kqb4.Call) (Q : VK) : Prop :=
  ∀ H' L' p y', (Kqb4.step (some y) c).1 = some y' → Rep A H' st y' L' → (∀ b o, H b = some o → ¬ Foot L b → H' b = some o) → (∀ b, Foot L' b → Foot L b ∨ H b = none) → L'.bl = L.bl → H p = none →
    H' p = some (.lst ((Kqb4Neutral.tell (Kqb4.step (some y) c).2).map V.int)) → Q (.ref p) H'
theorem Act.read {H H' : Hp} {st p : Addr} {L : Loca} {y : Kqb4.Shop} {c : Kqb4.Call} {Q : VK} {ans : List Int} (k : Act A H st L y c Q) (R : Rep A H st y L) (e1 : (Kqb4.step (some y) c).1 = some y) (s : Same H H') (hp : H p = none)
    (e2 : Kqb4Neutral.tell (Kqb4.step (some y) c).2 = ans) (h : H' p = some (.lst (ans.map V.int))) : Q (.ref p) H' :=
  k H' L p y e1 (R.same s) (fun b o e _ => s b o e) (fun b h => .inl h) rfl hp (by rw [e2]; exact h)
def spAct (A : Ad) (mk : List Nat → Option Kqb4.Call) (ok : Kqb4.Shop → Kqb4.Call → Prop) : Sp := fun vs H Q _ => ∃ (st : Addr) (y : Kqb4.Shop) (L : Loca) (ns : List Nat) (c : Kqb4.Call), vs = .ref st :: ns.map nv ∧ mk ns = some c ∧ (∀ n ∈ ns, n < 4294967296) ∧ Rep A H st y L ∧ Good y ∧ ok y c ∧ Act A H st L y c Q
def okT : Kqb4.Shop → Kqb4.Call → Prop := fun _ _ => True
def ok8 : Kqb4.Shop → Kqb4.Call → Prop := fun y _ => (Kqb4.loose y).length ≤ 8
def mkScrap : List Nat → Option Kqb4.Call | [i] => some (.scrap i) | _ => none
def mkTest : List Nat → Option Kqb4.Call | [i, h, r] => some (.test i h r) | _ => none
def mkCell : List Nat → Option Kqb4.Call | [h, r] => some (.cell h r) | _ => none
def mkGrade : List Nat → Option Kqb4.Call | [i] => some (.grade i) | _ => none
def mkGrades : List Nat → Option Kqb4.Call | [] => some .grades | _ => none
def mkMatch : List Nat → Option Kqb4.Call | [r, g] => some (.match_ r g) | _ => none
def mkBuild : List Nat → Option Kqb4.Call | [r, g] => some (.build r g) | _ => none
def mkCould : List Nat → Option Kqb4.Call | [r, g, n] => some (.could r g n) | _ => none
def mkPack : List Nat → Option Kqb4.Call | [p] => some (.pack p) | _ => none
def mkStrength : List Nat → Option Kqb4.Call | [p] => some (.strength p) | _ => none
end
end CP
end

section
set_option Elab.async false
set_option linter.all false
set_option maxRecDepth 100000
set_option maxHeartbeats 1000000
namespace CP
open PySem PySem.Spec PyProof.Rows L2
section
variable {P : Program} {w : World} {K : PySem.W.Frag} {mg : Str → Option Value} {base : Heap} {A : Ad}
theorem mkScrap_is {ns : List Nat} {c : Kqb4.Call} (h : mkScrap ns = some c) : ∃ i, ns = [i] ∧ c = .scrap i := match ns, h with | [i], h => ⟨i, rfl, (Option.some.inj h).symm⟩
theorem mkTest_is {ns : List Nat} {c : Kqb4.Call} (h : mkTest ns = some c) : ∃ i h r, ns = [i, h, r] ∧ c = .test i h r := match ns, h with | [i, a, b], h => ⟨i, a, b, rfl, (Option.some.inj h).symm⟩
theorem mkCell_is {ns : List Nat} {c : Kqb4.Call} (h : mkCell ns = some c) : ∃ h r, ns = [h, r] ∧ c = .cell h r := match ns, h with | [a, b], h => ⟨a, b, rfl, (Option.some.inj h).symm⟩
theorem mkGrade_is {ns : List Nat} {c : Kqb4.Call} (h : mkGrade ns = some c) : ∃ i, ns = [i] ∧ c = .grade i := match ns, h with | [i], h => ⟨i, rfl, (Option.some.inj h).symm⟩
theorem mkGrades_is {ns : List Nat} {c : Kqb4.Call} (h : mkGrades ns = some c) : ns = [] ∧ c = .grades := match ns, h with | [], h => ⟨rfl, (Option.some.inj h).symm⟩
theorem mkMatch_is {ns : List Nat} {c : Kqb4.Call} (h : mkMatch ns = some c) : ∃ r g, ns = [r, g] ∧ c = .match_ r g := match ns, h with | [a, b], h => ⟨a, b, rfl, (Option.some.inj h).symm⟩
theorem mkBuild_is {ns : List Nat} {c : Kqb4.Call} (h : mkBuild ns = some c) : ∃ r g, ns = [r, g] ∧ c = .build r g := match ns, h with | [a, b], h => ⟨a, b, rfl, (Option.some.inj h).symm⟩
theorem mkCould_is {ns : List Nat} {c : Kqb4.Call} (h : mkCould ns = some c) : ∃ r g n, ns = [r, g, n] ∧ c = .could r g n := match ns, h with | [a, b, d], h => ⟨a, b, d, rfl, (Option.some.inj h).symm⟩
theorem mkPack_is {ns : List Nat} {c : Kqb4.Call} (h : mkPack ns = some c) : ∃ p, ns = [p] ∧ c = .pack p := match ns, h with | [i], h => ⟨i, rfl, (Option.some.inj h).symm⟩
theorem mkStrength_is {ns : List Nat} {c : Kqb4.Call} (h : mkStrength ns = some c) : ∃ p, ns = [p] ∧ c = .strength p := match ns, h with | [i], h => ⟨i, rfl, (Option.some.inj h).symm⟩
theorem isL_iff {x : Kqb4.Cell} : isL x = true ↔ ¬ (x.pack ≠ 0 ∨ x.scrap = true) := by
  unfold isL
  rw [Bool.and_eq_true, beq_iff_eq]
  cases x.scrap <;> simp
theorem foot_cell {L : Loca} {i : Nat} {a : Addr} (h : L.as[i]? = some a) : Foot L a := .inl (List.mem_of_getElem? h)
theorem ok_scrap_cell (T : Txt K mg A) : FnOk P w K mg base CX0 3 A.f_scrap_cell A.fd_scrap_cell ["stock", "i"] (spAct A mkScrap okT) := by
  have G_loose_refusal := ok_loose_refusal (P := P) (w := w) (base := base) T
  refine T.F_scrap_cell.ok sc_scrap_cell (fun vs H Q E h => ?_) (fun cdv B outer s H vs Q E hr h => ?_)
  · obtain ⟨st, y, L, ns, c, rfl, hm, _⟩ := h
    obtain ⟨i, rfl, rfl⟩ := mkScrap_is hm
    rfl
  · obtain ⟨st, y, L, ns, c, rfl, hm, _, R, G, _, k⟩ := h
    obtain ⟨i, rfl, rfl⟩ := mkScrap_is hm
    refine ⟨_, (pss_cons (ps_set (i := 2) sc_scrap_cell.nd rfl (by first | exact Or.inl rfl | exact Or.inr rfl) (pe_call G_loose_refusal (hr.mono (by decide)) rfl T.m_loose_refusal T.F_loose_refusal.kp T.b_loose_refusal .nil pass0 (pa_cons (pv 0) (pa_cons (pv 1) pa_nil))))
      (pss_cons (ps_if (pt_cmpR op_ne (pv 2) pe_int (nomark _)) (pss_one (ps_ret (pe_lst (pa_cons (pv 2) pa_nil)))) pss_nil)
      (pss_cons (ps_set (i := 3) sc_scrap_cell.nd rfl (by first | exact Or.inl rfl | exact Or.inr rfl) (pe_ix (ix_listK (K := K) rfl) (pe_fldK (K := K) rfl (pv 0) rfl) (pv 1) (fun _ _ => rfl)))
      (pss_cons (ps_fldK (K := K) rfl (pv 3) pe_bl rfl)
      (pss_one (ps_ret (pe_lst (pa_cons (pe_fldK (K := K) rfl (pv 3) rfl) pa_nil)))))))), ?_⟩
    obtain ⟨dx, fs, hst, f⟩ := R.st
    refine ⟨_, rfl, _, rfl, st, y, L, i, rfl, R, ?_⟩
    cases e : y.cells[i]? with
    | none =>
      have er : refL y i = -2 := by unfold refL; rw [e]
      rw [er]
      refine ⟨_, rfl, rfl, _, rfl, _, rfl, (by show 1 ≤ sizeLine; decide), fun p hp => ?_⟩
      exact k.read R (by simp only [Kqb4.step, e]) ((Same.refl _).laid hp) hp (ans := [-2]) (by simp only [Kqb4.step, e]; rfl) upd_same
    | some x =>
      by_cases hl : isL x = true
      · have er : refL y i = 0 := by unfold refL; rw [e]; exact if_pos hl
        rw [er]
        obtain ⟨a, ha, dc, fc, hc, cf⟩ := R.cell e
        refine ⟨_, rfl, rfl, _, rfl, _, rfl, st, _, dx, fs, _, rfl, hst, T.C_Stock, T.n_Stock_cells, f.cells, _, rfl, L.cl, _, _, _, rfl, rfl, SqL.of R.cl, at_of (j := i) rfl (refs_at ha), ?_⟩
        refine ⟨_, rfl, a, _, dc, fc, rfl, hc, T.C_Cell, T.n_Cell_scrap, by have := cf.len; omega, ?_⟩
        have c1 : CellAt A (upd H a (.ins A.c_Cell dc (putF "scrap" (.bl true) fc))) a { x with scrap := true } := ⟨dc, _, upd_same, cf.setScrap true⟩
        have kp : ∀ b o, H b = some o → b ≠ a → upd H a (.ins A.c_Cell dc (putF "scrap" (.bl true) fc)) b = some o := fun b o e hb => by rw [upd_ne hb]; exact e
        have R1 := R.setCell T.cne ha c1 kp
        obtain ⟨d1, f1, h1, cf1⟩ := c1
        generalize upd H a (.ins A.c_Cell dc (putF "scrap" (.bl true) fc)) = H1 at kp R1 h1 ⊢
        refine ⟨_, rfl, a, _, d1, f1, _, rfl, h1, T.C_Cell, T.n_Cell_holds, cf1.holds, (by show 1 ≤ sizeLine; decide), fun p hp => ?_⟩
        have hn := isL_iff.mp hl
        have s2 : Same H1 (upd H1 p (.lst [nv x.holds])) := (Same.refl _).laid hp
        have hpH : H p = none := by
          cases q : H p with
          | none => rfl
          | some o =>
            by_cases ep : p = a
            · rw [ep, h1] at hp; cases hp
            · rw [kp p o q ep] at hp; cases hp
        refine k _ L p { y with cells := y.cells.set i { x with scrap := true } } (by simp only [Kqb4.step, e, if_neg hn]) (R1.same s2) (fun b o eb hb => s2 _ _ (kp b o eb fun z => hb (z ▸ foot_cell ha))) (fun b h => .inl h) rfl hpH ?_
        rw [upd_same]
        simp only [Kqb4.step, e, if_neg hn]
        rfl
      · have er : refL y i = -16 := by unfold refL; rw [e]; exact if_neg hl
        have hn : x.pack ≠ 0 ∨ x.scrap = true := Classical.byContradiction fun h => hl (isL_iff.mpr h)
        rw [er]
        refine ⟨_, rfl, rfl, _, rfl, _, rfl, (by show 1 ≤ sizeLine; decide), fun p hp => ?_⟩
        exact k.read R (by simp only [Kqb4.step, e, if_pos hn]) ((Same.refl _).laid hp) hp (ans := [-16]) (by simp only [Kqb4.step, e, if_pos hn]; rfl) upd_same
end
end CP
end

section
set_option Elab.async false
set_option linter.all false
set_option maxRecDepth 100000
set_option maxHeartbeats 1000000
namespace CP
open PySem PySem.Spec PyProof.Rows L2
section
variable {P : Program} {w : World} {K : PySem.W.Frag} {mg : Str → Option Value} {base : Heap} {A : Ad}
theorem ok_retest_cell (T : Txt K mg A) : FnOk P w K mg base CX0 3 A.f_retest_cell A.fd_retest_cell ["stock", "i", "holds", "resists"] (spAct A mkTest okT) := by
  have G_cell_as_told := ok_cell_as_told (P := P) (w := w) (base := base) T
  have G_loose_refusal := ok_loose_refusal (P := P) (w := w) (base := base) T
  refine T.F_retest_cell.ok sc_retest_cell (fun vs H Q E h => ?_) (fun cdv B outer s H vs Q E hr h => ?_)
  · obtain ⟨st, y, L, ns, c, rfl, hm, _⟩ := h
    obtain ⟨i, a, b, rfl, rfl⟩ := mkTest_is hm
    rfl
  · obtain ⟨st, y, L, ns, c, rfl, hm, _, R, G, _, k⟩ := h
    obtain ⟨i, hh, rr, rfl, rfl⟩ := mkTest_is hm
    refine ⟨_, (pss_cons (ps_set (i := 4) sc_retest_cell.nd rfl (by first | exact Or.inl rfl | exact Or.inr rfl) (pe_call G_loose_refusal (hr.mono (by decide)) rfl T.m_loose_refusal T.F_loose_refusal.kp T.b_loose_refusal .nil pass0 (pa_cons (pv 0) (pa_cons (pv 1) pa_nil))))
      (pss_cons (ps_if (pt_cmpR op_ne (pv 4) pe_int (nomark _)) (pss_one (ps_ret (pe_lst (pa_cons (pv 4) pa_nil)))) pss_nil)
      (pss_cons (ps_if (pt_not (pt_truthK (K := K) rfl (pe_call G_cell_as_told (hr.mono (by decide)) rfl T.m_cell_as_told T.F_cell_as_told.kp T.b_cell_as_told .nil pass0 (pa_cons (pv 2) (pa_cons (pv 3) pa_nil))) (fun _ => rfl))) (pss_one (ps_ret (pe_lst (pa_cons (pe_globI rfl T.m_NOT_AS_TOLD) pa_nil)))) pss_nil)
      (pss_cons (ps_set (i := 5) sc_retest_cell.nd rfl (by first | exact Or.inl rfl | exact Or.inr rfl) (pe_ix (ix_listK (K := K) rfl) (pe_fldK (K := K) rfl (pv 0) rfl) (pv 1) (fun _ _ => rfl)))
      (pss_cons (ps_set (i := 6) sc_retest_cell.nd rfl (by first | exact Or.inl rfl | exact Or.inr rfl) (pe_fldK (K := K) rfl (pv 5) rfl))
      (pss_cons (ps_fldK (K := K) rfl (pv 5) (pv 2) rfl)
      (pss_cons (ps_fldK (K := K) rfl (pv 5) (pv 3) rfl)
      (pss_one (ps_ret (pe_lst (pa_cons (pv 6) pa_nil))))))))))), ?_⟩
    obtain ⟨dx, fs, hst, f⟩ := R.st
    refine ⟨_, rfl, _, rfl, st, y, L, i, rfl, R, ?_⟩
    cases e : y.cells[i]? with
    | none =>
      have er : refL y i = -2 := by unfold refL; rw [e]
      rw [er]
      refine ⟨_, rfl, rfl, _, rfl, _, rfl, (by show 1 ≤ sizeLine; decide), fun p hp => ?_⟩
      exact k.read R (by simp only [Kqb4.step, e]) ((Same.refl _).laid hp) hp (ans := [-2]) (by simp only [Kqb4.step, e]; rfl) upd_same
    | some x =>
      by_cases hl : isL x = true
      · have hn := isL_iff.mp hl
        have er : refL y i = 0 := by unfold refL; rw [e]; exact if_pos hl
        rw [er]
        obtain ⟨a, ha, dc, fc, hc, cf⟩ := R.cell e
        refine ⟨_, rfl, rfl, _, rfl, _, rfl, _, rfl, hh, rr, rfl, _, rfl, ?_⟩
        cases hok : Kqb4.okCell hh rr with
        | false =>
          refine ⟨(by show 1 ≤ sizeLine; decide), fun p hp => ?_⟩
          exact k.read R (by simp only [Kqb4.step, e, if_neg hn, hok, if_true]) ((Same.refl _).laid hp) hp (ans := [-22]) (by simp only [Kqb4.step, e, if_neg hn, hok, if_true]; rfl) upd_same
        | true =>
          have hf : ¬ (true = false) := by decide
          refine ⟨_, rfl, st, _, dx, fs, _, rfl, hst, T.C_Stock, T.n_Stock_cells, f.cells, _, rfl, L.cl, _, _, _, rfl, rfl, SqL.of R.cl, at_of (j := i) rfl (refs_at ha), ?_⟩
          refine ⟨_, rfl, a, _, dc, fc, _, rfl, hc, T.C_Cell, T.n_Cell_holds, cf.holds, ?_⟩
          refine ⟨_, rfl, _, rfl, a, _, dc, fc, rfl, hc, T.C_Cell, T.n_Cell_holds, by have := cf.len; omega, ?_⟩
          have cf1 := cf.setHolds hh
          refine ⟨_, rfl, _, rfl, a, _, dc, _, rfl, upd_same, T.C_Cell, T.n_Cell_resists, by have := cf1.len; omega, ?_⟩
          have cf2 := cf1.setResists rr
          rw [upd_upd]
          have c1 : CellAt A (upd H a (.ins A.c_Cell dc (putF "resists" (nv rr) (putF "holds" (nv hh) fc)))) a { x with holds := hh, resists := rr } := ⟨dc, _, upd_same, cf2⟩
          have kp : ∀ b o, H b = some o → b ≠ a → upd H a (.ins A.c_Cell dc (putF "resists" (nv rr) (putF "holds" (nv hh) fc))) b = some o := fun b o e hb => by rw [upd_ne hb]; exact e
          have R1 := R.setCell T.cne ha c1 kp
          obtain ⟨d1, f1, h1, _⟩ := c1
          generalize upd H a (.ins A.c_Cell dc (putF "resists" (nv rr) (putF "holds" (nv hh) fc))) = H1 at kp R1 h1 ⊢
          refine ⟨_, rfl, (by show 1 ≤ sizeLine; decide), fun p hp => ?_⟩
          have s2 : Same H1 (upd H1 p (.lst [nv x.holds])) := (Same.refl _).laid hp
          have hpH : H p = none := by
            cases q : H p with
            | none => rfl
            | some o =>
              by_cases ep : p = a
              · rw [ep, h1] at hp; cases hp
              · rw [kp p o q ep] at hp; cases hp
          refine k _ L p { y with cells := y.cells.set i { x with holds := hh, resists := rr } } (by simp only [Kqb4.step, e, if_neg hn, hok, if_neg hf]) (R1.same s2) (fun b o eb hb => s2 _ _ (kp b o eb fun z => hb (z ▸ foot_cell ha))) (fun b h => .inl h) rfl hpH ?_
          rw [upd_same]
          simp only [Kqb4.step, e, if_neg hn, hok, if_neg hf]
          rfl
      · have er : refL y i = -16 := by unfold refL; rw [e]; exact if_neg hl
        have hn : x.pack ≠ 0 ∨ x.scrap = true := Classical.byContradiction fun h => hl (isL_iff.mpr h)
        rw [er]
        refine ⟨_, rfl, rfl, _, rfl, _, rfl, (by show 1 ≤ sizeLine; decide), fun p hp => ?_⟩
        exact k.read R (by simp only [Kqb4.step, e, if_pos hn]) ((Same.refl _).laid hp) hp (ans := [-16]) (by simp only [Kqb4.step, e, if_pos hn]; rfl) upd_same
theorem pair_snoc {α β : Type} {F : α → β → Prop} {a : α} {b : β} : ∀ {l : List α} {m : List β}, Paired F l m → F a b → Paired F (l ++ [a]) (m ++ [b])
  | _, _, .nil, h => .cons h .nil
  | _, _, .cons q t, h => .cons q (pair_snoc t h)
theorem Rep.addCell {H H' : Hp} {st a : Addr} {y : Kqb4.Shop} {L : Loca} {x : Kqb4.Cell} (r : Rep A H st y L) (hc : CellAt A H' a x) (hcl : H' L.cl = some (.lst ((L.as ++ [a]).map V.ref))) (kp : ∀ b o, H b = some o → b ≠ L.cl → H' b = some o) (fr : H a = none) :
    Rep A H' st { y with cells := y.cells ++ [x] } { L with as := L.as ++ [a] } := by
  have ni : ∀ {b C dx : Addr} {fs}, H b = some (.ins C dx fs) → b ≠ L.cl := fun e z => by rw [z, r.cl] at e; cases e
  obtain ⟨n1, n2⟩ := List.nodup_cons.mp r.lnd
  obtain ⟨n3, n4⟩ := List.nodup_cons.mp n2
  refine ⟨?_, kp _ _ r.bl (fun e => n1 (by rw [e]; simp)), hcl, ?_, ?_, kp _ _ r.pk (fun e => by have := r.pk; rw [e, r.cl] at this; cases this), fun p hp => ?_, r.all, r.knd, r.ind, r.lnd⟩
  · obtain ⟨ds, gs, hs, f⟩ := r.st
    exact ⟨ds, gs, kp _ _ hs (ni hs), f⟩
  · exact pair_snoc (pair_keep (fun b _ z ⟨dz, gz, hz, fz⟩ => ⟨dz, gz, kp _ _ hz (ni hz), fz⟩) r.cells) hc
  · exact nd_snoc r.nd fun hm => by
      obtain ⟨o, ho⟩ := r.tracked (.inl hm)
      rw [fr] at ho
      cases ho
  · obtain ⟨q, hq, ⟨dp, gp, hp1, f⟩, hl⟩ := r.packs p hp
    exact ⟨q, hq, ⟨dp, gp, kp _ _ hp1 (ni hp1), f⟩, kp _ _ hl (fun e => n3 (List.mem_map.mpr ⟨p, hp, e⟩))⟩
theorem ok_add_cell (T : Txt K mg A) : FnOk P w K mg base CX0 3 A.f_add_cell A.fd_add_cell ["stock", "holds", "resists"] (spAct A mkCell okT) := by
  have G_Cell___init__ := ok_Cell___init__ (P := P) (w := w) (base := base) T
  have G_cell_as_told := ok_cell_as_told (P := P) (w := w) (base := base) T
  refine T.F_add_cell.ok sc_add_cell (fun vs H Q E h => ?_) (fun cdv B outer s H vs Q E hr h => ?_)
  · obtain ⟨st, y, L, ns, c, rfl, hm, _⟩ := h
    obtain ⟨a, b, rfl, rfl⟩ := mkCell_is hm
    rfl
  · obtain ⟨st, y, L, ns, c, rfl, hm, _, R, G, _, k⟩ := h
    obtain ⟨hh, rr, rfl, rfl⟩ := mkCell_is hm
    refine ⟨_, (pss_cons (ps_if (pt_not (pt_truthK (K := K) rfl (pe_call G_cell_as_told (hr.mono (by decide)) rfl T.m_cell_as_told T.F_cell_as_told.kp T.b_cell_as_told .nil pass0 (pa_cons (pv 1) (pa_cons (pv 2) pa_nil))) (fun _ => rfl))) (pss_one (ps_ret (pe_lst (pa_cons (pe_globI rfl T.m_NOT_AS_TOLD) pa_nil)))) pss_nil)
      (pss_cons (ps_if (pt_cmpR op_ge (pe_callB (len_seqK (K := K) rfl) (by rfl) T.b_len boot_len (pa_cons (pe_fldK (K := K) rfl (pv 0) rfl) pa_nil)) (pe_globI rfl T.m_MOST_CELLS) (nomark _)) (pss_one (ps_ret (pe_lst (pa_cons (pe_globI rfl T.m_FULL) pa_nil)))) pss_nil)
      (pss_cons (ps_expr (pe_bmK (K := K) rfl PySem.F.plainAttrs_list PySem.F.slot_list_append PySem.F.type_list_append mt_append (pe_fldK (K := K) rfl (pv 0) rfl) (pa_cons (pe_make T.M_Cell G_Cell___init__ (hr.mono (by decide)) rfl T.m_Cell T.b_Cell___init__ .nil pass0 (pa_cons (pv 1) (pa_cons (pv 2) pa_nil))) pa_nil)))
      (pss_one (ps_ret (pe_lst (pa_cons (pe_op op_sub (pe_callB (len_seqK (K := K) rfl) (by rfl) T.b_len boot_len (pa_cons (pe_fldK (K := K) rfl (pv 0) rfl) pa_nil)) pe_int) pa_nil))))))), ?_⟩
    obtain ⟨dx, fs, hst, f⟩ := R.st
    refine ⟨_, rfl, _, rfl, hh, rr, rfl, _, rfl, ?_⟩
    cases hok : Kqb4.okCell hh rr with
    | false =>
      refine ⟨(by show 1 ≤ sizeLine; decide), fun p hp => ?_⟩
      exact k.read R (by simp only [Kqb4.step, hok, if_true]) ((Same.refl _).laid hp) hp (ans := [-22]) (by simp only [Kqb4.step, hok, if_true]; rfl) upd_same
    | true =>
      have hf : ¬ (true = false) := by decide
      refine ⟨_, rfl, st, _, dx, fs, _, rfl, hst, T.C_Stock, T.n_Stock_cells, f.cells, L.cl, _, rfl, .inl (SqL.of R.cl), _, _, rfl, rfl, _, rfl, ?_⟩
      rw [List.length_map, R.len]
      refine ite2 (fun h24 => ?_) (fun h24 => ?_)
      · have h24 : (24 : Int) ≤ (y.cells.length : Int) := of_decide_eq_true h24
        have h24 : 24 ≤ y.cells.length := by omega
        refine ⟨(by show 1 ≤ sizeLine; decide), fun p hp => ?_⟩
        exact k.read R (by simp only [Kqb4.step, hok, if_neg hf, if_pos h24]) ((Same.refl _).laid hp) hp (ans := [-28]) (by simp only [Kqb4.step, hok, if_neg hf, if_pos h24]; rfl) upd_same
      · have h24 : ¬ (24 : Int) ≤ (y.cells.length : Int) := fun e => h24 (decide_eq_true e)
        have h24 : ¬ 24 ≤ y.cells.length := by omega
        refine ⟨_, rfl, st, _, dx, fs, _, rfl, hst, T.C_Stock, T.n_Stock_cells, f.cells, .inl ⟨rfl, _, SqL.of R.cl⟩, _, rfl, _, rfl, fun a da na nda nea => ⟨a, da, hh, rr, rfl, upd_same, fun H1 c1 k1 => ⟨rfl, ?_⟩⟩⟩
        have s1 : Same H H1 := Same.made na nda k1
        refine ⟨L.cl, _, _, rfl, rfl, s1 _ _ R.cl, by rw [List.length_map, R.len, sizeLine_eq]; omega, ?_⟩
        obtain ⟨d1, f1, h1, cf1⟩ := c1
        have nac : a ≠ L.cl := fun z => by rw [z, R.cl] at na; cases na
        have c2 : CellAt A (upd H1 L.cl (.lst (L.as.map V.ref ++ [V.ref a]))) a ⟨hh, rr, 0, false⟩ := ⟨d1, f1, by rw [upd_ne nac]; exact h1, cf1⟩
        have hcl2 : upd H1 L.cl (.lst (L.as.map V.ref ++ [V.ref a])) L.cl = some (.lst ((L.as ++ [a]).map V.ref)) := by rw [upd_same, List.map_append]; rfl
        have kp : ∀ b o, H b = some o → b ≠ L.cl → upd H1 L.cl (.lst (L.as.map V.ref ++ [V.ref a])) b = some o := fun b o e hb => by rw [upd_ne hb]; exact s1 _ _ e
        have R1 := R.addCell c2 hcl2 kp na
        generalize upd H1 L.cl (.lst (L.as.map V.ref ++ [V.ref a])) = H2 at kp R1 ⊢
        obtain ⟨dx2, fs2, hst2, g2⟩ := R1.st
        refine ⟨_, rfl, st, _, dx2, fs2, _, rfl, hst2, T.C_Stock, T.n_Stock_cells, g2.cells, L.cl, _, rfl, .inl (SqL.of R1.cl), _, _, rfl, rfl, (by show 1 ≤ sizeLine; decide), fun p hp => ?_⟩
        have s2 : ∀ o, Same H2 (upd H2 p o) := fun o => (Same.refl _).laid hp
        have hpH : H p = none := by
          cases q : H p with
          | none => rfl
          | some o =>
            by_cases ep : p = L.cl
            · have := R1.cl
              rw [ep] at hp
              rw [show ({ L with as := L.as ++ [a] } : Loca).cl = L.cl from rfl] at this
              rw [hp] at this; cases this
            · rw [kp p o q ep] at hp; cases hp
        refine k _ _ p _ (by simp only [Kqb4.step, hok, if_neg hf, if_neg h24]) (R1.same (s2 _)) (fun b o eb hb => s2 _ _ _ (kp b o eb fun z => hb (.inr (.inr (.inl z))))) (fun b h => ?_) rfl hpH ?_
        · rcases h with h | h
          · rcases List.mem_append.mp h with h | h
            · exact .inl (.inl h)
            · rw [List.mem_singleton.mp h]
              exact .inr na
          · exact .inl (.inr h)
        · rw [upd_same]
          simp only [Kqb4.step, hok, if_neg hf, if_neg h24]
          rw [List.length_map, List.length_append, R.len]
          show some (HO.lst [V.int (((y.cells.length + 1 : Nat) : Int) - 1)]) = some (HO.lst [V.int (y.cells.length : Int)])
          rw [show (((y.cells.length + 1 : Nat) : Int) - 1) = (y.cells.length : Int) by omega]
theorem grade_is {y : Kqb4.Shop} {i : Nat} {x : Kqb4.Cell} (h : y.cells[i]? = some x) : Kqb4.grade y i = gradeN y.bounds x.holds := by
  unfold Kqb4.grade gradeN Kqb4.holds
  rw [h]
  rfl
theorem ok_grade_cell (T : Txt K mg A) : FnOk P w K mg base CX0 2 A.f_grade_cell A.fd_grade_cell ["stock", "i"] (spAct A mkGrade okT) := by
  have G_grade_of := ok_grade_of (P := P) (w := w) (base := base) T
  have G_has_cell := ok_has_cell (P := P) (w := w) (base := base) T
  refine T.F_grade_cell.ok sc_grade_cell (fun vs H Q E h => ?_) (fun cdv B outer s H vs Q E hr h => ?_)
  · obtain ⟨st, y, L, ns, c, rfl, hm, _⟩ := h
    obtain ⟨i, rfl, rfl⟩ := mkGrade_is hm
    rfl
  · obtain ⟨st, y, L, ns, c, rfl, hm, _, R, G, _, k⟩ := h
    obtain ⟨i, rfl, rfl⟩ := mkGrade_is hm
    refine ⟨_, (pss_cons (ps_if (pt_not (pt_truthK (K := K) rfl (pe_call G_has_cell (hr.mono (by decide)) rfl T.m_has_cell T.F_has_cell.kp T.b_has_cell .nil pass0 (pa_cons (pv 0) (pa_cons (pv 1) pa_nil))) (fun _ => rfl))) (pss_one (ps_ret (pe_lst (pa_cons (pe_globI rfl T.m_NO_SUCH) pa_nil)))) pss_nil)
      (pss_one (ps_ret (pe_lst (pa_cons (pe_call G_grade_of (hr.mono (by decide)) rfl T.m_grade_of T.F_grade_of.kp T.b_grade_of .nil pass0 (pa_cons (pv 0) (pa_cons (pe_ix (ix_listK (K := K) rfl) (pe_fldK (K := K) rfl (pv 0) rfl) (pv 1) (fun _ _ => rfl)) pa_nil))) pa_nil))))), ?_⟩
    obtain ⟨dx, fs, hst, f⟩ := R.st
    refine ⟨_, rfl, _, rfl, st, y, L, i, rfl, R, _, rfl, ?_⟩
    cases e : y.cells[i]? with
    | none =>
      have hi : y.cells.length ≤ i := List.getElem?_eq_none_iff.mp e
      rw [decide_eq_false (by omega)]
      refine ⟨(by show 1 ≤ sizeLine; decide), fun p hp => ?_⟩
      exact k.read R rfl ((Same.refl _).laid hp) hp (ans := [-2]) (by simp only [Kqb4.step, if_pos hi]; rfl) upd_same
    | some x =>
      have hi : i < y.cells.length := (List.getElem?_eq_some_iff.mp e).1
      rw [decide_eq_true hi]
      obtain ⟨a, ha, c⟩ := R.cell e
      refine ⟨_, rfl, _, rfl, st, _, dx, fs, _, rfl, hst, T.C_Stock, T.n_Stock_cells, f.cells, _, rfl, L.cl, _, _, _, rfl, rfl, SqL.of R.cl, at_of (j := i) rfl (refs_at ha), st, a, y, L, x, rfl, R, c, G.nb, fun H1 s1 => ?_⟩
      refine ⟨(by show 1 ≤ sizeLine; decide), fun p hp => ?_⟩
      exact k.read R rfl (s1.laid hp) (s1.free hp) (ans := [(gradeN y.bounds x.holds : Int)]) (by simp only [Kqb4.step, if_neg (show ¬ y.cells.length ≤ i by omega), grade_is e]; rfl) upd_same
end
end CP
end

section
set_option Elab.async false
set_option linter.all false
set_option maxRecDepth 100000
set_option maxHeartbeats 1000000
namespace CP
open PySem PySem.Spec PyProof.Rows L2
section
variable {P : Program} {w : World} {K : PySem.W.Frag} {mg : Str → Option Value} {base : Heap} {A : Ad}
theorem nvs_int (l : List Nat) : nvs l = (l.map fun (n : Nat) => (n : Int)).map V.int := rfl
/-- a pack of a good shop -/
theorem Good.pack {y : Kqb4.Shop} (G : Good y) {n : Nat} {q : List (List Nat)} (h : y.packs.getD n none = some q) : ∃ g, 0 < g ∧ g ≤ 4 ∧ (∀ l ∈ q, l.length = g) ∧ q ≠ [] ∧ q.length ≤ 4 ∧ (q.headD []).length = g ∧ q.flatten.length = q.length * g ∧ ∀ i ∈ q.flatten, i < y.cells.length := by
  have h' := getD_some.mp h
  obtain ⟨g, g0, g4, hl⟩ := G.gs n q h'
  have hne := G.ne n q h'
  refine ⟨g, g0, g4, hl, hne, G.le n q h', ?_, flat_len hl, fun i hi => ?_⟩
  · cases q with
    | nil => exact absurd rfl hne
    | cons a q => exact hl a (by simp)
  · obtain ⟨x, hx, _⟩ := G.inn n q h' i hi
    exact (List.getElem?_eq_some_iff.mp hx).1
theorem ok_tell_pack (T : Txt K mg A) : FnOk P w K mg base CX0 1 A.f_tell_pack A.fd_tell_pack ["stock", "p"] (spAct A mkPack okT) := by

  refine T.F_tell_pack.ok sc_tell_pack (fun vs H Q E h => ?_) (fun cdv B outer s H vs Q E hr h => ?_)
  · obtain ⟨st, y, L, ns, c, rfl, hm, _⟩ := h
    obtain ⟨i, rfl, rfl⟩ := mkPack_is hm
    rfl
  · obtain ⟨st, y, L, ns, c, rfl, hm, _, R, G, _, k⟩ := h
    obtain ⟨n, rfl, rfl⟩ := mkPack_is hm
    have hu : (B.deeper (envOfC (Str.ofString "tell_pack") (defScope s_tell_pack) s.heap.objs.size A.f_tell_pack cdv)).units + 1 < cLine := by have := hr.units; omega
    refine ⟨_, (pss_cons (ps_if (pt_cmp (pc_dnotin hu (pv 1) (pe_fldK (K := K) rfl (pv 0) rfl)) (by with_unfolding_all rfl)) (pss_one (ps_ret (pe_lst (pa_cons (pe_globI rfl T.m_NO_SUCH) pa_nil)))) pss_nil)
      (pss_cons (ps_set (i := 2) sc_tell_pack.nd rfl (by first | exact Or.inl rfl | exact Or.inr rfl) (pe_dget hu (pe_fldK (K := K) rfl (pv 0) rfl) (pv 1) (fun _ _ => rfl)))
      (pss_one (ps_ret (pe_op op_cat (pe_lst (pa_cons (pe_op op_fdiv (pe_callB (len_seqK (K := K) rfl) (by rfl) T.b_len boot_len (pa_cons (pe_fldK (K := K) rfl (pv 2) rfl) pa_nil)) (pe_fldK (K := K) rfl (pv 2) rfl)) (pa_cons (pe_fldK (K := K) rfl (pv 2) rfl) pa_nil))) (pe_fldK (K := K) rfl (pv 2) rfl)))))), ?_⟩
    obtain ⟨dx, fs, hst, f⟩ := R.st
    refine ⟨_, rfl, _, rfl, st, _, dx, fs, _, rfl, hst, T.C_Stock, T.n_Stock_packs, f.packs, L.pk, _, rfl, DGet.k (k := Sum.inl (n : Int)) R.pk, _, rfl, ?_⟩
    rw [R.isSome]
    cases e : y.packs.getD n none with
    | none =>
      refine ⟨(by show 1 ≤ sizeLine; decide), fun p hp => ?_⟩
      exact k.read R rfl ((Same.refl _).laid hp) hp (ans := [-2]) (by simp only [Kqb4.step, Kqb4.ofPack, e]; rfl) upd_same
    | some q =>
      obtain ⟨g, g0, g4, hl, hne, hq4, hh, hfl, hin⟩ := G.pack e
      obtain ⟨a, l, hm, hv, ⟨da, fa, ha, pf⟩, hll⟩ := R.val e
      rw [hh] at pf
      refine ⟨_, rfl, st, _, dx, fs, _, rfl, hst, T.C_Stock, T.n_Stock_packs, f.packs, _, rfl, L.pk, _, rfl, by rw [← hv]; exact DGet.k (k := Sum.inl (n : Int)) R.pk, ?_⟩
      refine ⟨_, rfl, a, _, da, fa, _, rfl, ha, T.C_Pack, T.n_Pack_cells, pf.cells, l, _, rfl, .inl (SqL.of hll), _, rfl, a, _, da, fa, _, rfl, ha, T.C_Pack, T.n_Pack_size, pf.size, _, _, rfl, rfl, ⟨by omega, by omega⟩, ?_⟩
      refine ⟨_, rfl, a, _, da, fa, _, rfl, ha, T.C_Pack, T.n_Pack_size, pf.size, (by show 2 ≤ sizeLine; decide), fun u hu' => ?_⟩
      have s1 : ∀ o, Same H (upd H u o) := fun o => (Same.refl _).laid hu'
      refine ⟨_, rfl, a, _, da, fa, _, rfl, s1 _ _ _ ha, T.C_Pack, T.n_Pack_cells, pf.cells, u, l, _, _, rfl, rfl, upd_same, s1 _ _ _ hll, ?_, fun p hp => ?_⟩
      · rw [nvs_len, hfl, sizeLine_eq]
        have : q.length * g ≤ 4 * 4 := Nat.mul_le_mul hq4 g4
        show 2 + _ ≤ _
        omega
      · refine k.read R rfl ((s1 _).laid hp) ((s1 _).free hp) (ans := (q.length : Int) :: (((g :: q.flatten).map fun (n : Nat) => (n : Int)))) ?_ ?_
        · simp only [Kqb4.step, Kqb4.ofPack, e, hh]
          rfl
        · rw [upd_same, nvs_len, hfl]
          have e1 : ((q.length * g : Nat) : Int) / (g : Int) = (q.length : Int) := by
            rw [Int.natCast_mul]
            exact Int.mul_ediv_cancel _ (by omega)
          show some (HO.lst ([V.int (((q.length * g : Nat) : Int) / (g : Int)), nv g] ++ nvs q.flatten)) = _
          rw [e1]
          rfl
def spTotals (A : Ad) : Sp := fun vs H Q _ => ∃ (st : Addr) (y : Kqb4.Shop) (L : Loca) (n : Nat) (q : List (List Nat)), vs = [.ref st, nv n] ∧ Rep A H st y L ∧ Good y ∧ y.packs.getD n none = some q ∧
  ∀ H' t, Same H H' → H t = none → H' t = some (.lst (nvs (q.map (Kqb4.group y)))) → Q (.ref t) H'
theorem ok_totals_of (T : Txt K mg A) : FnOk P w K mg base CX0 2 A.f_totals_of A.fd_totals_of ["stock", "p"] (spTotals A) := by
  have G_group_totals := ok_group_totals (P := P) (w := w) (base := base) T
  have G_held := ok_held (P := P) (w := w) (base := base) T
  refine T.F_totals_of.ok sc_totals_of (fun vs H Q E h => ?_) (fun cdv B outer s H vs Q E hr h => ?_)
  · obtain ⟨st, y, L, n, q, rfl, _⟩ := h
    rfl
  · obtain ⟨st, y, L, n, q, rfl, R, G, e, k⟩ := h
    have hu : (B.deeper (envOfC (Str.ofString "totals_of") (defScope s_totals_of) s.heap.objs.size A.f_totals_of cdv)).units + 1 < cLine := by have := hr.units; omega
    refine ⟨_, (pss_cons (ps_set (i := 2) sc_totals_of.nd rfl (by first | exact Or.inl rfl | exact Or.inr rfl) (pe_dget hu (pe_fldK (K := K) rfl (pv 0) rfl) (pv 1) (fun _ _ => rfl)))
      (pss_one (ps_ret (pe_call G_group_totals (hr.mono (by decide)) rfl T.m_group_totals T.F_group_totals.kp T.b_group_totals .nil pass0 (pa_cons (pe_fldK (K := K) rfl (pv 2) rfl) (pa_cons (pe_fldK (K := K) rfl (pv 2) rfl) (pa_cons (pe_call G_held (hr.mono (by decide)) rfl T.m_held T.F_held.kp T.b_held .nil pass0 (pa_cons (pv 0) pa_nil)) pa_nil))))))), ?_⟩
    obtain ⟨dx, fs, hst, f⟩ := R.st
    obtain ⟨g, g0, g4, hl, hne, hq4, hh, hfl, hin⟩ := G.pack e
    obtain ⟨a, l, hm, hv, ⟨da, fa, ha, pf⟩, hll⟩ := R.val e
    rw [hh] at pf
    have h16 : q.length * g ≤ 4 * 4 := Nat.mul_le_mul hq4 g4
    refine ⟨_, rfl, st, _, dx, fs, _, rfl, hst, T.C_Stock, T.n_Stock_packs, f.packs, _, rfl, L.pk, _, rfl, by rw [← hv]; exact DGet.k (k := Sum.inl (n : Int)) R.pk, ?_⟩
    refine ⟨_, rfl, a, _, da, fa, _, rfl, ha, T.C_Pack, T.n_Pack_cells, pf.cells, _, rfl, a, _, da, fa, _, rfl, ha, T.C_Pack, T.n_Pack_size, pf.size, _, rfl, st, y, L, rfl, R, G.nc, fun H1 u s1 hu1 h1 => ?_⟩
    refine ⟨l, u, q.flatten, hsOf y, g, rfl, SqL.of (s1 _ _ hll), SqL.of h1, g0, by omega, by omega, fun i hi => by simpa [hsOf] using hin i hi, fun H2 t s2 ht h2 => ?_⟩
    have et : tots g (hsOf y) q.flatten = q.map (Kqb4.group y) := tots_flat g0 y hl
    rw [et] at h2
    exact k _ t (s1.trans s2) (s1.free ht) h2
theorem ok_tell_strength (T : Txt K mg A) : FnOk P w K mg base CX0 3 A.f_tell_strength A.fd_tell_strength ["stock", "p"] (spAct A mkStrength okT) := by
  have G_spread_of := ok_spread_of (P := P) (w := w) (base := base) T
  have G_strength_of := ok_strength_of (P := P) (w := w) (base := base) T
  have G_totals_of := ok_totals_of (P := P) (w := w) (base := base) T
  refine T.F_tell_strength.ok sc_tell_strength (fun vs H Q E h => ?_) (fun cdv B outer s H vs Q E hr h => ?_)
  · obtain ⟨st, y, L, ns, c, rfl, hm, _⟩ := h
    obtain ⟨i, rfl, rfl⟩ := mkStrength_is hm
    rfl
  · obtain ⟨st, y, L, ns, c, rfl, hm, _, R, G, _, k⟩ := h
    obtain ⟨n, rfl, rfl⟩ := mkStrength_is hm
    have hu : (B.deeper (envOfC (Str.ofString "tell_strength") (defScope s_tell_strength) s.heap.objs.size A.f_tell_strength cdv)).units + 1 < cLine := by have := hr.units; omega
    refine ⟨_, (pss_cons (ps_if (pt_cmp (pc_dnotin hu (pv 1) (pe_fldK (K := K) rfl (pv 0) rfl)) (by with_unfolding_all rfl)) (pss_one (ps_ret (pe_lst (pa_cons (pe_globI rfl T.m_NO_SUCH) pa_nil)))) pss_nil)
      (pss_cons (ps_set (i := 2) sc_tell_strength.nd rfl (by first | exact Or.inl rfl | exact Or.inr rfl) (pe_call G_totals_of (hr.mono (by decide)) rfl T.m_totals_of T.F_totals_of.kp T.b_totals_of .nil pass0 (pa_cons (pv 0) (pa_cons (pv 1) pa_nil))))
      (pss_one (ps_ret (pe_lst (pa_cons (pe_call G_strength_of (hr.mono (by decide)) rfl T.m_strength_of T.F_strength_of.kp T.b_strength_of .nil pass0 (pa_cons (pv 2) pa_nil)) (pa_cons (pe_call G_spread_of (hr.mono (by decide)) rfl T.m_spread_of T.F_spread_of.kp T.b_spread_of .nil pass0 (pa_cons (pv 2) pa_nil)) pa_nil))))))), ?_⟩
    obtain ⟨dx, fs, hst, f⟩ := R.st
    refine ⟨_, rfl, _, rfl, st, _, dx, fs, _, rfl, hst, T.C_Stock, T.n_Stock_packs, f.packs, L.pk, _, rfl, DGet.k (k := Sum.inl (n : Int)) R.pk, _, rfl, ?_⟩
    rw [R.isSome]
    cases e : y.packs.getD n none with
    | none =>
      refine ⟨(by show 1 ≤ sizeLine; decide), fun p hp => ?_⟩
      exact k.read R rfl ((Same.refl _).laid hp) hp (ans := [-2]) (by simp only [Kqb4.step, Kqb4.ofPack, e]; rfl) upd_same
    | some q =>
      obtain ⟨g, g0, g4, hl, hne, hq4, hh, hfl, hin⟩ := G.pack e
      refine ⟨_, rfl, _, rfl, st, y, L, n, q, rfl, R, G, e, fun H2 t s2 ht h2 => ?_⟩
      have hn : q.map (Kqb4.group y) ≠ [] := by simpa using hne
      refine ⟨_, rfl, t, _, rfl, SqL.of h2, hn, _, rfl, t, _, rfl, SqL.of h2, hn, (by show 2 ≤ sizeLine; decide), fun p hp => ?_⟩
      refine k.read R rfl (s2.laid hp) (s2.free hp) (ans := [(Kqb4.strength y q : Int), (Kqb4.spread y q : Int)]) ?_ upd_same
      simp only [Kqb4.step, Kqb4.ofPack, e]
      rfl
theorem refD_22 {y : Kqb4.Shop} {r g : Nat} (h : Kqb4.okSize r g = false) : refD y r g = -22 := by unfold refD; rw [if_pos h]
theorem refD_12 {y : Kqb4.Shop} {r g : Nat} (h : Kqb4.okSize r g = true) (hl : (Kqb4.loose y).length < r * g) : refD y r g = -12 := by unfold refD; rw [if_neg (by rw [h]; decide), if_pos hl]
theorem refD_0 {y : Kqb4.Shop} {r g : Nat} (h : Kqb4.okSize r g = true) (hl : ¬ (Kqb4.loose y).length < r * g) : refD y r g = 0 := by unfold refD; rw [if_neg (by rw [h]; decide), if_neg hl]
theorem ok_match_cells (T : Txt K mg A) : FnOk P w K mg base CX0 5 A.f_match_cells A.fd_match_cells ["stock", "groups", "size"] (spAct A mkMatch ok8) := by
  have G_best_of_loose := ok_best_of_loose (P := P) (w := w) (base := base) T
  have G_dealing_refusal := ok_dealing_refusal (P := P) (w := w) (base := base) T
  have G_group_totals := ok_group_totals (P := P) (w := w) (base := base) T
  have G_held := ok_held (P := P) (w := w) (base := base) T
  have G_spread_of := ok_spread_of (P := P) (w := w) (base := base) T
  have G_strength_of := ok_strength_of (P := P) (w := w) (base := base) T
  refine T.F_match_cells.ok sc_match_cells (fun vs H Q E h => ?_) (fun cdv B outer s H vs Q E hr h => ?_)
  · obtain ⟨st, y, L, ns, c, rfl, hm, _⟩ := h
    obtain ⟨r, g, rfl, rfl⟩ := mkMatch_is hm
    rfl
  · obtain ⟨st, y, L, ns, c, rfl, hm, h32, R, G, h8, k⟩ := h
    obtain ⟨r, g, rfl, rfl⟩ := mkMatch_is hm
    refine ⟨_, (pss_cons (ps_set (i := 3) sc_match_cells.nd rfl (by first | exact Or.inl rfl | exact Or.inr rfl) (pe_call G_dealing_refusal (hr.mono (by decide)) rfl T.m_dealing_refusal T.F_dealing_refusal.kp T.b_dealing_refusal .nil pass0 (pa_cons (pv 0) (pa_cons (pv 1) (pa_cons (pv 2) pa_nil)))))
      (pss_cons (ps_if (pt_cmpR op_ne (pv 3) pe_int (nomark _)) (pss_one (ps_ret (pe_lst (pa_cons (pv 3) pa_nil)))) pss_nil)
      (pss_cons (ps_set (i := 4) sc_match_cells.nd rfl (by first | exact Or.inl rfl | exact Or.inr rfl) (pe_call G_best_of_loose (hr.mono (by decide)) rfl T.m_best_of_loose T.F_best_of_loose.kp T.b_best_of_loose .nil pass0 (pa_cons (pv 0) (pa_cons (pv 1) (pa_cons (pv 2) pa_nil)))))
      (pss_cons (ps_set (i := 5) sc_match_cells.nd rfl (by first | exact Or.inl rfl | exact Or.inr rfl) (pe_call G_group_totals (hr.mono (by decide)) rfl T.m_group_totals T.F_group_totals.kp T.b_group_totals .nil pass0 (pa_cons (pv 4) (pa_cons (pv 2) (pa_cons (pe_call G_held (hr.mono (by decide)) rfl T.m_held T.F_held.kp T.b_held .nil pass0 (pa_cons (pv 0) pa_nil)) pa_nil)))))
      (pss_one (ps_ret (pe_op op_cat (pe_lst (pa_cons (pe_call G_strength_of (hr.mono (by decide)) rfl T.m_strength_of T.F_strength_of.kp T.b_strength_of .nil pass0 (pa_cons (pv 5) pa_nil)) (pa_cons (pe_call G_spread_of (hr.mono (by decide)) rfl T.m_spread_of T.F_spread_of.kp T.b_spread_of .nil pass0 (pa_cons (pv 5) pa_nil)) pa_nil))) (pv 4)))))))), ?_⟩
    refine ⟨_, rfl, _, rfl, _, rfl, st, y, L, r, g, rfl, R, G.nc, h32 r (by simp), fun H1 s1 => ?_⟩
    cases hs : Kqb4.okSize r g with
    | false =>
      rw [refD_22 hs]
      refine ⟨_, rfl, rfl, _, rfl, _, rfl, (by show 1 ≤ sizeLine; decide), fun p hp => ?_⟩
      exact k.read R rfl (s1.laid hp) (s1.free hp) (ans := [-22]) (by simp only [Kqb4.step, hs, if_true]; rfl) upd_same
    | true =>
      have hf : ¬ (true = false) := by decide
      obtain ⟨r0, r4, g0, g4, rg⟩ := okSize_is hs
      by_cases hl : (Kqb4.loose y).length < r * g
      · rw [refD_12 hs hl]
        refine ⟨_, rfl, rfl, _, rfl, _, rfl, (by show 1 ≤ sizeLine; decide), fun p hp => ?_⟩
        exact k.read R rfl (s1.laid hp) (s1.free hp) (ans := [-12]) (by simp only [Kqb4.step, hs, if_neg hf, match_none hl]; rfl) upd_same
      · rw [refD_0 hs hl]
        obtain ⟨q, hq⟩ := match_some g0 (show r * g ≤ (Kqb4.loose y).length by omega)
        obtain ⟨q1, q2, q3, q4⟩ := match_ok hq
        have hfl : q.flatten.length = r * g := by rw [flat_len q2, q1]
        refine ⟨_, rfl, rfl, _, rfl, _, rfl, _, rfl, _, rfl, st, y, L, r, g, q, rfl, R.same s1, G.nc, h8, hs, hq, fun H2 cl s2 hcl h2 => ?_⟩
        refine ⟨_, rfl, _, rfl, _, rfl, st, y, L, rfl, (R.same s1).same s2, G.nc, fun H3 u s3 hu3 h3 => ?_⟩
        refine ⟨cl, u, q.flatten, hsOf y, g, rfl, SqL.of (s3 _ _ h2), SqL.of h3, g0, by omega, by omega, fun i hi => by simpa [hsOf] using loose_mem (q3 i hi), fun H4 t s4 ht h4 => ?_⟩
        have et : tots g (hsOf y) q.flatten = q.map (Kqb4.group y) := tots_flat g0 y q2
        have hn : q.map (Kqb4.group y) ≠ [] := by
          intro e
          have := congrArg List.length e
          rw [List.length_map, q1] at this
          simp at this
          omega
        rw [et] at h4
        refine ⟨_, rfl, t, _, rfl, SqL.of h4, hn, _, rfl, t, _, rfl, SqL.of h4, hn, (by show 2 ≤ sizeLine; decide), fun v hv => ?_⟩
        have s5 : ∀ o, Same H4 (upd H4 v o) := fun o => (Same.refl _).laid hv
        refine ⟨_, rfl, v, cl, _, _, rfl, rfl, upd_same, s5 _ _ _ (s4 _ _ (s3 _ _ h2)), ?_, fun p hp => ?_⟩
        · rw [nvs_len, hfl, sizeLine_eq]
          show 2 + _ ≤ _
          omega
        · have s6 := s1.trans (s2.trans (s3.trans (s4.trans (s5 (.lst [nv (Kqb4.least (q.map (Kqb4.group y))), nv (Kqb4.greatest (q.map (Kqb4.group y)) - Kqb4.least (q.map (Kqb4.group y)))])))))
          refine k.read R rfl (s6.laid hp) (s6.free hp) (ans := (Kqb4.strength y q : Int) :: (((Kqb4.spread y q :: q.flatten).map fun (n : Nat) => (n : Int)))) ?_ ?_
          · simp only [Kqb4.step, hs, if_neg hf, hq]
            rfl
          · rw [upd_same]
            rfl
theorem ok_could_build (T : Txt K mg A) : FnOk P w K mg base CX0 5 A.f_could_build A.fd_could_build ["stock", "groups", "size", "asked"] (spAct A mkCould ok8) := by
  have G_best_of_loose := ok_best_of_loose (P := P) (w := w) (base := base) T
  have G_dealing_refusal := ok_dealing_refusal (P := P) (w := w) (base := base) T
  have G_group_totals := ok_group_totals (P := P) (w := w) (base := base) T
  have G_held := ok_held (P := P) (w := w) (base := base) T
  have G_strength_of := ok_strength_of (P := P) (w := w) (base := base) T
  refine T.F_could_build.ok sc_could_build (fun vs H Q E h => ?_) (fun cdv B outer s H vs Q E hr h => ?_)
  · obtain ⟨st, y, L, ns, c, rfl, hm, _⟩ := h
    obtain ⟨r, g, n, rfl, rfl⟩ := mkCould_is hm
    rfl
  · obtain ⟨st, y, L, ns, c, rfl, hm, h32, R, G, h8, k⟩ := h
    obtain ⟨r, g, n, rfl, rfl⟩ := mkCould_is hm
    refine ⟨_, (pss_cons (ps_set (i := 4) sc_could_build.nd rfl (by first | exact Or.inl rfl | exact Or.inr rfl) (pe_call G_dealing_refusal (hr.mono (by decide)) rfl T.m_dealing_refusal T.F_dealing_refusal.kp T.b_dealing_refusal .nil pass0 (pa_cons (pv 0) (pa_cons (pv 1) (pa_cons (pv 2) pa_nil)))))
      (pss_cons (ps_if (pt_cmpR op_ne (pv 4) pe_int (nomark _)) (pss_one (ps_ret (pe_lst (pa_cons (pv 4) pa_nil)))) pss_nil)
      (pss_cons (ps_set (i := 5) sc_could_build.nd rfl (by first | exact Or.inl rfl | exact Or.inr rfl) (pe_call G_group_totals (hr.mono (by decide)) rfl T.m_group_totals T.F_group_totals.kp T.b_group_totals .nil pass0 (pa_cons (pe_call G_best_of_loose (hr.mono (by decide)) rfl T.m_best_of_loose T.F_best_of_loose.kp T.b_best_of_loose .nil pass0 (pa_cons (pv 0) (pa_cons (pv 1) (pa_cons (pv 2) pa_nil)))) (pa_cons (pv 2) (pa_cons (pe_call G_held (hr.mono (by decide)) rfl T.m_held T.F_held.kp T.b_held .nil pass0 (pa_cons (pv 0) pa_nil)) pa_nil)))))
      (pss_one (ps_ret (pe_lst (pa_cons (pe_ifExp (pt_cmpR op_ge (pe_call G_strength_of (hr.mono (by decide)) rfl T.m_strength_of T.F_strength_of.kp T.b_strength_of .nil pass0 (pa_cons (pv 5) pa_nil)) (pv 3) (nomark _)) pe_int pe_int) pa_nil))))))), ?_⟩
    refine ⟨_, rfl, _, rfl, _, rfl, st, y, L, r, g, rfl, R, G.nc, h32 r (by simp), fun H1 s1 => ?_⟩
    cases hs : Kqb4.okSize r g with
    | false =>
      rw [refD_22 hs]
      refine ⟨_, rfl, rfl, _, rfl, _, rfl, (by show 1 ≤ sizeLine; decide), fun p hp => ?_⟩
      exact k.read R rfl (s1.laid hp) (s1.free hp) (ans := [-22]) (by simp only [Kqb4.step, hs, if_true]; rfl) upd_same
    | true =>
      have hf : ¬ (true = false) := by decide
      obtain ⟨r0, r4, g0, g4, rg⟩ := okSize_is hs
      by_cases hl : (Kqb4.loose y).length < r * g
      · rw [refD_12 hs hl]
        refine ⟨_, rfl, rfl, _, rfl, _, rfl, (by show 1 ≤ sizeLine; decide), fun p hp => ?_⟩
        exact k.read R rfl (s1.laid hp) (s1.free hp) (ans := [-12]) (by simp only [Kqb4.step, hs, if_neg hf, match_none hl]; rfl) upd_same
      · rw [refD_0 hs hl]
        obtain ⟨q, hq⟩ := match_some g0 (show r * g ≤ (Kqb4.loose y).length by omega)
        obtain ⟨q1, q2, q3, q4⟩ := match_ok hq
        have hfl : q.flatten.length = r * g := by rw [flat_len q2, q1]
        refine ⟨_, rfl, rfl, _, rfl, _, rfl, _, rfl, _, rfl, st, y, L, r, g, q, rfl, R.same s1, G.nc, h8, hs, hq, fun H2 cl s2 hcl h2 => ?_⟩
        refine ⟨_, rfl, _, rfl, st, y, L, rfl, (R.same s1).same s2, G.nc, fun H3 u s3 hu3 h3 => ?_⟩
        refine ⟨cl, u, q.flatten, hsOf y, g, rfl, SqL.of (s3 _ _ h2), SqL.of h3, g0, by omega, by omega, fun i hi => by simpa [hsOf] using loose_mem (q3 i hi), fun H4 t s4 ht h4 => ?_⟩
        have et : tots g (hsOf y) q.flatten = q.map (Kqb4.group y) := tots_flat g0 y q2
        have hn : q.map (Kqb4.group y) ≠ [] := by
          intro e
          have := congrArg List.length e
          rw [List.length_map, q1] at this
          simp at this
          omega
        rw [et] at h4
        refine ⟨_, rfl, t, _, rfl, SqL.of h4, hn, _, rfl, _, _, rfl, rfl, _, rfl, ?_⟩
        have s6 := s1.trans (s2.trans (s3.trans s4))
        refine ite2 (fun h => ?_) (fun h => ?_)
        · have h : (n : Int) ≤ (Kqb4.strength y q : Int) := of_decide_eq_true h
          refine ⟨(by show 1 ≤ sizeLine; decide), fun p hp => ?_⟩
          exact k.read R rfl (s6.laid hp) (s6.free hp) (ans := [1]) (by simp only [Kqb4.step, hs, if_neg hf, hq, if_pos (show n ≤ Kqb4.strength y q by omega)]; rfl) upd_same
        · have h : ¬ (n : Int) ≤ (Kqb4.strength y q : Int) := fun e => h (decide_eq_true e)
          refine ⟨(by show 1 ≤ sizeLine; decide), fun p hp => ?_⟩
          exact k.read R rfl (s6.laid hp) (s6.free hp) (ans := [0]) (by simp only [Kqb4.step, hs, if_neg hf, hq, if_neg (show ¬ n ≤ Kqb4.strength y q by omega)]; rfl) upd_same
end
end CP
end

section
set_option Elab.async false
set_option linter.all false
set_option maxRecDepth 100000
set_option maxHeartbeats 1000000
namespace CP
open PySem PySem.Spec PyProof.Rows L2
section
variable {P : Program} {w : World} {K : PySem.W.Frag} {mg : Str → Option Value} {base : Heap} {A : Ad}
/-- a pack is put in -/
theorem Rep.addPack {H H' : Hp} {st a c : Addr} {y : Kqb4.Shop} {L : Loca} {q : List (List Nat)} (N : Cne A) (r : Rep A H st y L) (hpk : H' L.pk = some (.dK (kvsOf (L.ps ++ [(Kqb4.slot y.packs, a, c)])))) (pa : PackAt A H' a c q)
    (kp : ∀ b o, H b = some o → b ≠ L.pk → H' b = some o) (fa : H a = none) (fc : c ∉ L.bl :: L.cl :: L.ps.map (·.2.2)) :
    Rep A H' st { y with packs := Kqb4.putIn y.packs q } { L with ps := L.ps ++ [(Kqb4.slot y.packs, a, c)] } := by
  have ni : ∀ {b C dx : Addr} {fs}, H b = some (.ins C dx fs) → b ≠ L.pk := fun e z => by rw [z, r.pk] at e; cases e
  have nl : ∀ {b : Addr} {xs : List V}, H b = some (.lst xs) → b ≠ L.pk := fun e z => by rw [z, r.pk] at e; cases e
  have hnew : ∀ p ∈ L.ps, p.1 ≠ Kqb4.slot y.packs := fun p hp e => by
    obtain ⟨q', hq', _⟩ := r.packs p hp
    have := slot_none y.packs
    rw [← e, getD_some.mpr hq'] at this
    cases this
  refine ⟨?_, kp _ _ r.bl (nl r.bl), kp _ _ r.cl (nl r.cl), pair_keep (fun b _ z ⟨dz, gz, hz, fz⟩ => ⟨dz, gz, kp _ _ hz (ni hz), fz⟩) r.cells, r.nd, hpk, fun p hp => ?_, fun n q' hq' => ?_, ?_, ?_, ?_⟩
  · obtain ⟨ds, gs, hs, f⟩ := r.st
    exact ⟨ds, gs, kp _ _ hs (ni hs), f⟩
  · rcases List.mem_append.mp hp with hp | hp
    · obtain ⟨q', hq', ⟨dp, gp, hp1, f⟩, hl⟩ := r.packs p hp
      exact ⟨q', by show (Kqb4.putIn y.packs q)[p.1]? = _; rw [putIn_get, if_neg (hnew p hp)]; exact hq', ⟨dp, gp, kp _ _ hp1 (ni hp1), f⟩, kp _ _ hl (nl hl)⟩
    · rw [List.mem_singleton.mp hp]
      exact ⟨q, by show (Kqb4.putIn y.packs q)[_]? = _; rw [putIn_get, if_pos rfl], pa⟩
  · have hq' : (Kqb4.putIn y.packs q)[n]? = some (some q') := hq'
    rw [putIn_get] at hq'
    by_cases e : n = Kqb4.slot y.packs
    · exact ⟨a, c, by rw [e]; simp⟩
    · rw [if_neg e] at hq'
      obtain ⟨a', l', h⟩ := r.all n q' hq'
      exact ⟨a', l', by simp [h]⟩
  · show ((L.ps ++ [(Kqb4.slot y.packs, a, c)]).map (·.1)).Nodup
    rw [List.map_append]
    exact nd_snoc r.knd fun hm => by
      obtain ⟨p, hp, e⟩ := List.mem_map.mp hm
      exact hnew p hp e
  · show ((L.ps ++ [(Kqb4.slot y.packs, a, c)]).map (·.2.1)).Nodup
    rw [List.map_append]
    exact nd_snoc r.ind fun hm => by
      obtain ⟨o, ho⟩ := r.tracked (b := a) (.inr (.inr (.inr (.inl hm))))
      rw [fa] at ho
      cases ho
  · show (L.bl :: L.cl :: (L.ps ++ [(Kqb4.slot y.packs, a, c)]).map (·.2.2)).Nodup
    rw [List.map_append]
    exact nd_snoc r.lnd fc
def spAddPack (A : Ad) : Sp := fun vs H Q _ => ∃ (st c : Addr) (y : Kqb4.Shop) (L : Loca) (q : List (List Nat)) (g : Nat), vs = [.ref st, nv g, .ref c] ∧ Rep A H st y L ∧ Good y ∧ (q.headD []).length = g ∧ H c = some (.lst (nvs q.flatten)) ∧
  c ∉ L.bl :: L.cl :: L.ps.map (·.2.2) ∧ (∀ i ∈ q.flatten, i < y.cells.length) ∧
  ∀ H' L', Rep A H' st { y with cells := Kqb4.mark y q.flatten (Kqb4.slot y.packs + 1), packs := Kqb4.putIn y.packs q } L' → (∀ b o, H b = some o → ¬ Foot L b → H' b = some o) → (∀ b, Foot L' b → Foot L b ∨ H b = none ∨ b = c) → (∀ b, Foot L b → Foot L' b) → L'.bl = L.bl → Q (nv (Kqb4.slot y.packs)) H'
theorem ok_add_pack (T : Txt K mg A) : FnOk P w K mg base CX0 3 A.f_add_pack A.fd_add_pack ["stock", "size", "cells"] (spAddPack A) := by
  have G_Pack___init__ := ok_Pack___init__ (P := P) (w := w) (base := base) T
  have G_free_number := ok_free_number (P := P) (w := w) (base := base) T
  refine T.F_add_pack.ok sc_add_pack (fun vs H Q E h => ?_) (fun cdv B outer s H vs Q E hr h => ?_)
  · obtain ⟨st, c, y, L, q, g, rfl, _⟩ := h
    rfl
  · obtain ⟨st, c, y, L, q, g, rfl, R, G, hg, hc, fc, hin, k⟩ := h
    have hu : (B.deeper (envOfC (Str.ofString "add_pack") (defScope s_add_pack) s.heap.objs.size A.f_add_pack cdv)).units + 1 < cLine := by have := hr.units; omega
    refine ⟨_, (pss_cons (ps_set (i := 3) sc_add_pack.nd rfl (by first | exact Or.inl rfl | exact Or.inr rfl) (pe_call G_free_number (hr.mono (by decide)) rfl T.m_free_number T.F_free_number.kp T.b_free_number .nil pass0 (pa_cons (pv 0) pa_nil)))
      (pss_cons (ps_dput hu (pe_fldK (K := K) rfl (pv 0) rfl) (pv 3) (pe_make T.M_Pack G_Pack___init__ (hr.mono (by decide)) rfl T.m_Pack T.b_Pack___init__ .nil pass0 (pa_cons (pv 1) (pa_cons (pv 2) pa_nil))) rfl)
      (pss_cons (ps_for PassesOwn.never rfl (pi_listK (K := K) rfl (pv 2)) (pg_name (i := 4) sc_add_pack.nd rfl (by first | exact Or.inl rfl | exact Or.inr rfl)) (pss_cons (ps_set (i := 5) sc_add_pack.nd rfl (by first | exact Or.inl rfl | exact Or.inr rfl) (pe_ix (ix_listK (K := K) rfl) (pe_fldK (K := K) rfl (pv 0) rfl) (pv 4) (fun _ _ => rfl)))
      (pss_one (ps_fldK (K := K) rfl (pv 5) (pv 3) rfl))))
      (pss_one (ps_ret (pv 3)))))), ?_⟩
    refine ⟨_, rfl, st, y, L, rfl, R, ?_⟩
    refine ⟨_, rfl, _, rfl, fun a da na nda nea => ⟨a, da, c, g, rfl, upd_same, fun H1 c1 k1 => ⟨rfl, ?_⟩⟩⟩
    have s1 : Same H H1 := Same.made na nda k1
    have R1 := R.same s1
    obtain ⟨dx, fs, hst, f⟩ := R1.st
    have hpl : L.ps.length ≤ 24 := by
      have h1 : (L.ps.map (·.1)).length ≤ (List.range y.packs.length).length := nodup_le R.knd fun n hn => by
        obtain ⟨p, hp, rfl⟩ := List.mem_map.mp hn
        obtain ⟨q', hq', _⟩ := R.packs p hp
        exact List.mem_range.mpr (List.getElem?_eq_some_iff.mp hq').1
      rw [List.length_map, List.length_range] at h1
      exact Nat.le_trans h1 G.np
    refine ⟨_, rfl, st, _, dx, fs, _, rfl, hst, T.C_Stock, T.n_Stock_packs, f.packs, _, rfl, L.pk, _, rfl, DPut.k (k := Sum.inl (Kqb4.slot y.packs : Int)) R1.pk (by rw [List.length_map, sizeLine_eq]; omega), ?_⟩
    rw [putK_new (V.ref a) (R1.noval (slot_none y.packs))]
    obtain ⟨fp, hp1, pf⟩ := c1
    have hpk2 : upd H1 L.pk (.dK (kvsOf L.ps ++ [(Sum.inl (Kqb4.slot y.packs : Int), V.ref a)])) L.pk = some (.dK (kvsOf (L.ps ++ [(Kqb4.slot y.packs, a, c)]))) := by
      rw [upd_same]
      unfold kvsOf
      rw [List.map_append]
      rfl
    have kp2 : ∀ b o, H1 b = some o → b ≠ L.pk → upd H1 L.pk (.dK (kvsOf L.ps ++ [(Sum.inl (Kqb4.slot y.packs : Int), V.ref a)])) b = some o := fun b o e hb => by rw [upd_ne hb]; exact e
    have hc1 := s1 _ _ hc
    have nap : a ≠ L.pk := fun z => by rw [z, R1.pk] at hp1; cases hp1
    have ncp : c ≠ L.pk := fun z => by rw [z, R1.pk] at hc1; cases hc1
    have pa2 : PackAt A (upd H1 L.pk (.dK (kvsOf L.ps ++ [(Sum.inl (Kqb4.slot y.packs : Int), V.ref a)]))) a c q := ⟨⟨da, fp, kp2 _ _ hp1 nap, by rw [hg]; exact pf⟩, kp2 _ _ hc1 ncp⟩
    generalize upd H1 L.pk (.dK (kvsOf L.ps ++ [(Sum.inl (Kqb4.slot y.packs : Int), V.ref a)])) = H2 at hpk2 kp2 pa2 ⊢
    have kp3 : ∀ b o, H b = some o → b ≠ L.pk → H2 b = some o := fun b o e hb => kp2 _ _ (s1 _ _ e) hb
    have R2 := R.addPack T.cne hpk2 pa2 kp3 na fc
    have hc2 := pa2.2
    refine ⟨_, rfl, c, rfl, ⟨_, SqL.of hc2⟩, ?_⟩
    refine for_list (xs := nvs q.flatten) (fun j σ H3 => ∃ v4 v5, σ = [some (.ref st), some (nv g), some (.ref c), some (nv (Kqb4.slot y.packs)), v4, v5] ∧ Rep A H3 st { y with cells := Kqb4.mark y (q.flatten.take j) (Kqb4.slot y.packs + 1), packs := Kqb4.putIn y.packs q } { L with ps := L.ps ++ [(Kqb4.slot y.packs, a, c)] } ∧
        (∀ b o, H2 b = some o → b ∉ L.as → H3 b = some o)) ⟨none, none, rfl, by rw [List.take_zero, mark_nil]; exact R2, fun b o e _ => e⟩ (fun j σ H3 _ ⟨_, _, _, R3, k3⟩ => SqL.of (k3 _ _ hc2 fun hm => ?_)) ?_ ?_
    · obtain ⟨i, hi, e⟩ := List.mem_iff_getElem.mp hm
      obtain ⟨x, _, dz, fz, hz, _⟩ := paired_get R2.cells (List.getElem?_eq_getElem (l := L.as) hi)
      rw [e, hc2] at hz
      cases hz
    · rintro j v σ H3 hv ⟨v4, v5, rfl, R3, k3⟩
      obtain ⟨i, hi, rfl⟩ := nvs_get hv
      have him := hin i (List.mem_of_getElem? hi)
      obtain ⟨x, hx⟩ : ∃ x, (Kqb4.mark y (q.flatten.take j) (Kqb4.slot y.packs + 1))[i]? = some x := ⟨_, List.getElem?_eq_getElem (by rw [mark_len]; exact him)⟩
      obtain ⟨ca, hca, dc, fc', hcc, cf⟩ := R3.cell hx
      obtain ⟨dx3, fs3, hst3, f3⟩ := R3.st
      refine ⟨_, rfl, st, _, dx3, fs3, _, rfl, hst3, T.C_Stock, T.n_Stock_cells, f3.cells, _, rfl, L.cl, _, _, _, rfl, rfl, SqL.of R3.cl, at_of (j := i) rfl (refs_at hca), ?_⟩
      refine ⟨_, rfl, _, rfl, ca, _, dc, fc', rfl, hcc, T.C_Cell, T.n_Cell_pack, by have := cf.len; omega, ?_⟩
      have cf4 := cf.setPack (Kqb4.slot y.packs + 1)
      refine ⟨_, _, rfl, ?_, fun b o e hb => ?_⟩
      · rw [take_snoc hi, mark_snoc hx]
        exact R3.setCell T.cne (x' := { x with pack := Kqb4.slot y.packs + 1 }) hca ⟨dc, _, upd_same, cf4⟩ fun b o e hb => by rw [upd_ne hb]; exact e
      · rw [upd_ne (fun (z : b = ca) => hb (z ▸ List.mem_of_getElem? hca))]
        exact k3 _ _ e hb
    · rintro σ H3 ⟨v4, v5, rfl, R3, k3⟩
      rw [nvs_len, List.take_length] at R3
      refine ⟨_, rfl, k _ _ R3 (fun b o e hb => k3 _ _ (kp3 b o e fun z => hb (.inr (.inl z))) fun z => hb (.inl z)) (fun b h => ?_) (fun b h => ?_) rfl⟩
      rotate_left
      · rcases h with h | h | h | h | h
        · exact .inl h
        · exact .inr (.inl h)
        · exact .inr (.inr (.inl h))
        · exact .inr (.inr (.inr (.inl (by show b ∈ (L.ps ++ [(Kqb4.slot y.packs, a, c)]).map (·.2.1); rw [List.map_append]; exact List.mem_append_left _ h))))
        · exact .inr (.inr (.inr (.inr (by show b ∈ (L.ps ++ [(Kqb4.slot y.packs, a, c)]).map (·.2.2); rw [List.map_append]; exact List.mem_append_left _ h))))
      rcases h with h | h | h | h | h
      · exact .inl (.inl h)
      · exact .inl (.inr (.inl h))
      · exact .inl (.inr (.inr (.inl h)))
      · have h : b ∈ (L.ps ++ [(Kqb4.slot y.packs, a, c)]).map (·.2.1) := h
        rw [List.map_append, List.mem_append] at h
        rcases h with h | h
        · exact .inl (.inr (.inr (.inr (.inl h))))
        · rw [List.mem_singleton.mp h]
          exact .inr (.inl na)
      · have h : b ∈ (L.ps ++ [(Kqb4.slot y.packs, a, c)]).map (·.2.2) := h
        rw [List.map_append, List.mem_append] at h
        rcases h with h | h
        · exact .inl (.inr (.inr (.inr (.inr h))))
        · exact .inr (.inr (List.mem_singleton.mp h))
theorem ok_build_pack (T : Txt K mg A) : FnOk P w K mg base CX0 5 A.f_build_pack A.fd_build_pack ["stock", "groups", "size"] (spAct A mkBuild ok8) := by
  have G_add_pack := ok_add_pack (P := P) (w := w) (base := base) T
  have G_best_of_loose := ok_best_of_loose (P := P) (w := w) (base := base) T
  have G_dealing_refusal := ok_dealing_refusal (P := P) (w := w) (base := base) T
  refine T.F_build_pack.ok sc_build_pack (fun vs H Q E h => ?_) (fun cdv B outer s H vs Q E hr h => ?_)
  · obtain ⟨st, y, L, ns, c, rfl, hm, _⟩ := h
    obtain ⟨r, g, rfl, rfl⟩ := mkBuild_is hm
    rfl
  · obtain ⟨st, y, L, ns, c, rfl, hm, h32, R, G, h8, k⟩ := h
    obtain ⟨r, g, rfl, rfl⟩ := mkBuild_is hm
    refine ⟨_, (pss_cons (ps_set (i := 3) sc_build_pack.nd rfl (by first | exact Or.inl rfl | exact Or.inr rfl) (pe_call G_dealing_refusal (hr.mono (by decide)) rfl T.m_dealing_refusal T.F_dealing_refusal.kp T.b_dealing_refusal .nil pass0 (pa_cons (pv 0) (pa_cons (pv 1) (pa_cons (pv 2) pa_nil)))))
      (pss_cons (ps_if (pt_cmpR op_ne (pv 3) pe_int (nomark _)) (pss_one (ps_ret (pe_lst (pa_cons (pv 3) pa_nil)))) pss_nil)
      (pss_one (ps_ret (pe_lst (pa_cons (pe_call G_add_pack (hr.mono (by decide)) rfl T.m_add_pack T.F_add_pack.kp T.b_add_pack .nil pass0 (pa_cons (pv 0) (pa_cons (pv 2) (pa_cons (pe_call G_best_of_loose (hr.mono (by decide)) rfl T.m_best_of_loose T.F_best_of_loose.kp T.b_best_of_loose .nil pass0 (pa_cons (pv 0) (pa_cons (pv 1) (pa_cons (pv 2) pa_nil)))) pa_nil)))) pa_nil)))))), ?_⟩
    refine ⟨_, rfl, _, rfl, _, rfl, st, y, L, r, g, rfl, R, G.nc, h32 r (by simp), fun H1 s1 => ?_⟩
    cases hs : Kqb4.okSize r g with
    | false =>
      rw [refD_22 hs]
      refine ⟨_, rfl, rfl, _, rfl, _, rfl, (by show 1 ≤ sizeLine; decide), fun p hp => ?_⟩
      exact k.read R (by simp only [Kqb4.step, hs, if_true]) (s1.laid hp) (s1.free hp) (ans := [-22]) (by simp only [Kqb4.step, hs, if_true]; rfl) upd_same
    | true =>
      have hf : ¬ (true = false) := by decide
      obtain ⟨r0, r4, g0, g4, rg⟩ := okSize_is hs
      by_cases hl : (Kqb4.loose y).length < r * g
      · rw [refD_12 hs hl]
        refine ⟨_, rfl, rfl, _, rfl, _, rfl, (by show 1 ≤ sizeLine; decide), fun p hp => ?_⟩
        exact k.read R (by simp only [Kqb4.step, hs, if_neg hf, match_none hl]) (s1.laid hp) (s1.free hp) (ans := [-12]) (by simp only [Kqb4.step, hs, if_neg hf, match_none hl]; rfl) upd_same
      · rw [refD_0 hs hl]
        obtain ⟨q, hq⟩ := match_some g0 (show r * g ≤ (Kqb4.loose y).length by omega)
        obtain ⟨q1, q2, q3, q4⟩ := match_ok hq
        have hh : (q.headD []).length = g := by
          cases q with
          | nil => simp at q1; omega
          | cons a q => exact q2 a (by simp)
        refine ⟨_, rfl, rfl, _, rfl, _, rfl, _, rfl, _, rfl, _, rfl, _, rfl, st, y, L, r, g, q, rfl, R.same s1, G.nc, h8, hs, hq, fun H2 cl s2 hcl h2 => ?_⟩
        have s12 := s1.trans s2
        have hcl0 : H cl = none := s1.free hcl
        refine ⟨st, cl, y, L, q, g, rfl, R.same s12, G, hh, h2, fun hm => ?_, fun i hi => loose_mem (q3 i hi), fun H3 L3 R3 kp3 ft3 fk3 eb3 => ?_⟩
        · rcases List.mem_cons.mp hm with e | hm
          · rw [e, R.bl] at hcl0; cases hcl0
          · rcases List.mem_cons.mp hm with e | hm
            · rw [e, R.cl] at hcl0; cases hcl0
            · obtain ⟨o, ho⟩ := R.tracked (b := cl) (.inr (.inr (.inr (.inr hm))))
              rw [hcl0] at ho; cases ho
        · refine ⟨(by show 1 ≤ sizeLine; decide), fun p hp => ?_⟩
          have s4 : ∀ o, Same H3 (upd H3 p o) := fun o => (Same.refl _).laid hp
          have hpH : H p = none := by
            cases e : H p with
            | none => rfl
            | some o =>
              by_cases hfp : Foot L p
              · obtain ⟨o', ho'⟩ := R3.tracked (fk3 p hfp)
                rw [hp] at ho'
                cases ho'
              · rw [kp3 p o (s12 _ _ e) hfp] at hp; cases hp
          refine k _ L3 p _ (by simp only [Kqb4.step, hs, if_neg hf, hq]) (R3.same (s4 _)) (fun b o e hb => s4 _ _ _ (kp3 b o (s12 _ _ e) hb)) (fun b h => ?_) eb3 hpH ?_
          · rcases ft3 b h with h | h | h
            · exact .inl h
            · exact .inr (s12.free h)
            · exact .inr (h ▸ hcl0)
          · rw [upd_same]
            simp only [Kqb4.step, hs, if_neg hf, hq]
            rfl
end
end CP
end

section
set_option Elab.async false
set_option linter.all false
set_option maxRecDepth 100000
set_option maxHeartbeats 1000000
namespace CP
open PySem PySem.Spec PyProof.Rows L2
section
variable {P : Program} {w : World} {K : PySem.W.Frag} {mg : Str → Option Value} {base : Heap} {A : Ad}
theorem gradeN_le (bs : List Nat) (h : Nat) : gradeN bs h ≤ bs.length := List.length_filter_le _ _
theorem nvs_rep (n : Nat) : nvs (List.replicate n 0) = List.replicate n (V.int 0) := by
  induction n with
  | zero => rfl
  | succ n ih => rw [List.replicate_succ, List.replicate_succ, nvs_cons, ih]; rfl
theorem nvs_set (l : List Nat) (i n : Nat) : (nvs l).set i (nv n) = nvs (l.set i n) := by simp [nvs, List.map_set]
theorem ok_count_grades (T : Txt K mg A) : FnOk P w K mg base CX0 3 A.f_count_grades A.fd_count_grades ["stock"] (spAct A mkGrades okT) := by
  have G_grade_of := ok_grade_of (P := P) (w := w) (base := base) T
  have G_loose_cells := ok_loose_cells (P := P) (w := w) (base := base) T
  refine T.F_count_grades.ok sc_count_grades (fun vs H Q E h => ?_) (fun cdv B outer s H vs Q E hr h => ?_)
  · obtain ⟨st, y, L, ns, c, rfl, hm, _⟩ := h
    obtain ⟨rfl, rfl⟩ := mkGrades_is hm
    rfl
  · obtain ⟨st, y, L, ns, c, rfl, hm, _, R, G, _, k⟩ := h
    obtain ⟨rfl, rfl⟩ := mkGrades_is hm
    refine ⟨_, (pss_cons (ps_setLc (i := 1) rfl sc_count_grades.nd rfl rfl (sw_true rfl rfl rfl rfl) (own := [("grade", 2)]) (pi_range1 rfl T.b_range (pa_cons (pe_op op_add (pe_callB (len_seqK (K := K) rfl) (by rfl) T.b_len boot_len (pa_cons (pe_fldK (K := K) rfl (pv 0) rfl) pa_nil)) pe_int) pa_nil)) (blkOk_by (by show blkC ["stock", "counts", "grade", "i"] (defScope s_count_grades) _ _ = true; decide +kernel)) (fun _ _ _ _ _ => (pg_name (i := 2) sc_count_grades.nd rfl (by first | exact Or.inl rfl | exact Or.inr rfl))) (fun _ _ _ _ _ => pts_nil) (fun _ _ _ _ _ => pe_int))
      (pss_cons (ps_for PassesOwn.never rfl (pi_listK (K := K) rfl (pe_call G_loose_cells (hr.mono (by decide)) rfl T.m_loose_cells T.F_loose_cells.kp T.b_loose_cells .nil pass0 (pa_cons (pv 0) pa_nil))) (pg_name (i := 3) sc_count_grades.nd rfl (by first | exact Or.inl rfl | exact Or.inr rfl)) (pss_one (ps_augS (pv 1) (pe_call G_grade_of (hr.mono (by decide)) rfl T.m_grade_of T.F_grade_of.kp T.b_grade_of .nil pass0 (pa_cons (pv 0) (pa_cons (pe_ix (ix_listK (K := K) rfl) (pe_fldK (K := K) rfl (pv 0) rfl) (pv 3) (fun _ _ => rfl)) pa_nil))) (get_listK (K := K) rfl) pe_int ip_add set_list)))
      (pss_one (ps_ret (pe_op op_cat (pe_lst (pa_cons (pe_callB (len_seqK (K := K) rfl) (by rfl) T.b_len boot_len (pa_cons (pv 1) pa_nil)) pa_nil)) (pv 1)))))), ?_⟩
    obtain ⟨dx, fs, hst, f⟩ := R.st
    have nb := G.nb
    have nc := G.nc
    refine ⟨_, rfl, st, _, dx, fs, _, rfl, hst, T.C_Stock, T.n_Stock_bounds, f.bounds, L.bl, _, rfl, .inl (SqL.of R.bl), _, _, rfl, rfl, _, rfl, ?_, ?_, fun D hD => ?_⟩
    · rw [nvs_len]; omega
    · rw [nvs_len]; omega
    have en : (((nvs y.bounds).length : Int) + 1).toNat = y.bounds.length + 1 := by rw [nvs_len]; omega
    refine lc_range (fun j H2 => Same H H2 ∧ H2 D = some (.lst (List.replicate j (V.int 0)))) ⟨(Same.refl _).laid hD, upd_same⟩ ?_ ?_
    · rintro j H2 hj ⟨s2, h2⟩
      refine ⟨rfl, _, h2, ?_, s2.put hD, ?_⟩
      · rw [List.length_replicate, sizeLine_eq]
        omega
      · rw [upd_same, List.replicate_succ']
    · rintro H2 ⟨s2, h2⟩
      rw [en] at h2
      refine ⟨_, rfl, st, y, L, rfl, R.same s2, nc, fun H3 l s3 hl h3 => ?_⟩
      have s23 := s2.trans s3
      have hlD : l ≠ D := fun e => by rw [e, h2] at hl; cases hl
      have hg : ∀ (i : Nat), i ∈ Kqb4.loose y → Kqb4.grade y i ≤ y.bounds.length := fun i hi => by
        obtain ⟨x, hx⟩ : ∃ x, y.cells[i]? = some x := ⟨_, List.getElem?_eq_getElem (loose_mem hi)⟩
        rw [grade_is hx]
        exact gradeN_le _ _
      refine ⟨l, rfl, ⟨_, SqL.of h3⟩, ?_⟩
      refine for_list (xs := nvs (Kqb4.loose y)) (fun j σ H4 => ∃ v2 v3, σ = [some (.ref st), some (.ref D), v2, v3] ∧ Same H H4 ∧ H4 l = some (.lst (nvs (Kqb4.loose y))) ∧ H4 D = some (.lst (nvs (cnts y.bounds.length (Kqb4.grade y) ((Kqb4.loose y).take j)))))
        ⟨_, _, rfl, s23, h3, by rw [s3 _ _ h2, List.take_zero, cnts_nil, nvs_rep]⟩ (fun j σ H4 _ ⟨_, _, _, _, h, _⟩ => SqL.of h) ?_ ?_
      · rintro j v σ H4 hv ⟨v2, v3, rfl, s4, hl4, hD4⟩
        obtain ⟨i, hi, rfl⟩ := nvs_get hv
        have him := List.mem_of_getElem? hi
        obtain ⟨x, hx⟩ : ∃ x, y.cells[i]? = some x := ⟨_, List.getElem?_eq_getElem (loose_mem him)⟩
        have R4 := R.same s4
        obtain ⟨a, ha, c4⟩ := R4.cell hx
        obtain ⟨dx4, fs4, hst4, f4⟩ := R4.st
        refine ⟨_, rfl, _, rfl, _, rfl, st, _, dx4, fs4, _, rfl, hst4, T.C_Stock, T.n_Stock_cells, f4.cells, _, rfl, L.cl, _, _, _, rfl, rfl, SqL.of R4.cl, at_of (j := i) rfl (refs_at ha), st, a, y, L, x, rfl, R4, c4, nb, fun H5 s5 => ?_⟩
        have hgi := hg i him
        rw [← grade_is hx]
        refine ⟨D, _, _, _, rfl, rfl, SqL.of (s5 _ _ hD4), at_of (j := Kqb4.grade y i) rfl (nvs_at (cnts_get hgi)), _, _, rfl, rfl, D, _, _, Kqb4.grade y i, rfl, rfl, s5 _ _ hD4, ?_, ?_⟩
        · rw [nvs_len, cnts_len]
          unfold ixN
          rw [if_pos (by omega), if_pos (by omega), Int.toNat_natCast]
        · refine ⟨_, _, rfl, (s4.trans s5).put hD, by rw [upd_ne hlD]; exact s5 _ _ hl4, ?_⟩
          rw [upd_same, take_snoc hi, cnts_snoc hgi, ← nvs_set]
          rfl
      · rintro σ H4 ⟨v2, v3, rfl, s4, hl4, hD4⟩
        rw [nvs_len, List.take_length] at hD4
        refine ⟨_, rfl, D, _, rfl, .inl (SqL.of hD4), (by show 1 ≤ sizeLine; decide), fun u hu => ?_⟩
        have s5 : ∀ o, Same H4 (upd H4 u o) := fun o => (Same.refl _).laid hu
        refine ⟨_, rfl, u, D, _, _, rfl, rfl, upd_same, s5 _ _ _ hD4, ?_, fun p hp => ?_⟩
        · rw [nvs_len, cnts_len, sizeLine_eq]
          show 1 + _ ≤ _
          omega
        · refine k.read R rfl ((s4.trans (s5 _)).laid hp) ((s4.trans (s5 _)).free hp) (ans := ((y.bounds.length + 1 : Nat) : Int) :: ((cnts y.bounds.length (Kqb4.grade y) (Kqb4.loose y)).map fun (n : Nat) => (n : Int))) ?_ ?_
          · rfl
          · rw [upd_same, nvs_len, cnts_len]
            rfl
end
end CP
end

section
set_option Elab.async false
set_option linter.all false
set_option maxRecDepth 100000
set_option maxHeartbeats 1000000
namespace CP
open PySem PySem.Spec PyProof.Rows L2
section
variable {P : Program} {w : World} {K : PySem.W.Frag} {mg : Str → Option Value} {base : Heap} {A : Ad}
/-! ### what packs resist -/
def tupN (H : Hp) (p : Addr) (f : Kqb4.Frac) : Prop := H p = some (.tup [nv f.num, nv f.den])
def spGcd : Sp := fun vs H Q _ => ∃ a b : Nat, vs = [nv a, nv b] ∧ Q (nv (Nat.gcd a b)) H
theorem ok_common_divisor (T : Txt K mg A) : FnOk P w K mg base CX0 1 A.f_common_divisor A.fd_common_divisor ["one", "other"] spGcd := by
  refine T.F_common_divisor.ok sc_common_divisor (fun vs H Q E h => ?_) (fun cdv B outer s H vs Q E hr h => ?_)
  · obtain ⟨a, b, rfl, _⟩ := h
    rfl
  · obtain ⟨a, b, rfl, k⟩ := h
    refine ⟨_, (pss_cons (ps_while PassesOwn.never (pt_cmpR op_ne (pv 1) pe_int (nomark _)) (pss_cons (ps_set (i := 2) sc_common_divisor.nd rfl (by first | exact Or.inl rfl | exact Or.inr rfl) (pe_op op_mod (pv 0) (pv 1)))
      (pss_cons (ps_set (i := 0) sc_common_divisor.nd rfl (by first | exact Or.inl rfl | exact Or.inr rfl) (pv 1))
      (pss_one (ps_set (i := 1) sc_common_divisor.nd rfl (by first | exact Or.inl rfl | exact Or.inr rfl) (pv 2))))))
      (pss_one (ps_ret (pv 0)))), ?_⟩
    refine while_by (fun σ H' => ∃ (x z : Nat) (v : Option V), σ = [some (nv x), some (nv z), v] ∧ H' = H ∧ Nat.gcd x z = Nat.gcd a b) (fun σ _ => match σ with | [_, some (.int n), _] => n.toNat | _ => 0) ⟨a, b, none, rfl, rfl, rfl⟩ ?_ ?_
    · rintro σ H' ⟨x, z, v, rfl, rfl, e⟩
      refine ⟨_, rfl, rfl, _, rfl, ?_⟩
      refine ite2 (fun h => ?_) (fun h => ?_)
      · have h : ¬ (z : Int) = 0 := dVne h
        refine ⟨_, rfl, _, rfl, _, _, rfl, rfl, (by show (0 : Int) < (z : Int); omega), _, rfl, _, rfl, ⟨z, x % z, some (nv (x % z)), rfl, rfl, ?_⟩, ?_⟩
        · rw [← e, Nat.gcd_comm z, ← Nat.gcd_rec, Nat.gcd_comm]
        · show ((x : Int) % (z : Int)).toNat < ((z : Int)).toNat
          have : (x : Int) % (z : Int) < (z : Int) := Int.emod_lt_of_pos _ (by omega)
          omega
      · have h : (z : Int) = 0 := dVeq h
        have h : z = 0 := by omega
        subst h
        rw [Nat.gcd_zero_right] at e
        refine ⟨_, rfl, ?_⟩
        rw [e]
        exact k
    · rintro σ H Q Q' hq ⟨v, e1, h2, c, h3, h4⟩
      exact ⟨v, e1, h2, c, h3, hq _ _ h4⟩
def spLow : Sp := fun vs H Q _ => ∃ n d : Nat, vs = [nv n, nv d] ∧ 0 < d ∧ d < 2 ^ 256 ∧ ∀ H' p, Same H H' → H p = none → tupN H' p (Kqb4.frac n d) → Q (.ref p) H'
theorem ok_lowest_terms (T : Txt K mg A) : FnOk P w K mg base CX0 2 A.f_lowest_terms A.fd_lowest_terms ["upper", "lower"] spLow := by
  have G_common_divisor := ok_common_divisor (P := P) (w := w) (base := base) T
  refine T.F_lowest_terms.ok sc_lowest_terms (fun vs H Q E h => ?_) (fun cdv B outer s H vs Q E hr h => ?_)
  · obtain ⟨n, d, rfl, _⟩ := h
    rfl
  · obtain ⟨n, d, rfl, hd, hb, k⟩ := h
    refine ⟨_, (pss_cons (ps_set (i := 2) sc_lowest_terms.nd rfl (by first | exact Or.inl rfl | exact Or.inr rfl) (pe_call G_common_divisor (hr.mono (by decide)) rfl T.m_common_divisor T.F_common_divisor.kp T.b_common_divisor .nil pass0 (pa_cons (pv 0) (pa_cons (pv 1) pa_nil))))
      (pss_one (ps_ret (pe_tup (pa_cons (pe_op op_fdivB (pv 0) (pv 2)) (pa_cons (pe_op op_fdivB (pv 1) (pv 2)) pa_nil)))))), ?_⟩
    have g0 : 0 < Nat.gcd n d := Nat.gcd_pos_of_pos_right _ hd
    have g1 : Nat.gcd n d ≤ d := Nat.gcd_le_right _ hd
    have gb : CDivB (n : Int) (Nat.gcd n d : Int) := ⟨by omega, by omega⟩
    have gc : CDivB (d : Int) (Nat.gcd n d : Int) := ⟨by omega, by omega⟩
    refine ⟨_, rfl, _, rfl, n, d, rfl, _, rfl, _, rfl, _, _, rfl, rfl, gb, _, rfl, _, rfl, _, _, rfl, rfl, gc, (by show 2 ≤ sizeLine; decide), fun p hp => ?_⟩
    refine k _ p ((Same.refl _).laid hp) hp ?_
    show upd H p _ p = _
    rw [upd_same, frac_pos hd]
    rfl
def spAdd (K : PySem.W.Frag) : Sp := fun vs H Q _ => ∃ (a b : Addr) (f h : Kqb4.Frac), vs = [.ref a, .ref b] ∧ SqT K H a [nv f.num, nv f.den] ∧ SqT K H b [nv h.num, nv h.den] ∧ 0 < f.den ∧ 0 < h.den ∧ f.den ≤ 2 ^ 128 ∧ h.num < 2 ^ 64 ∧ h.den < 2 ^ 64 ∧
  ∀ H' p, Same H H' → H p = none → tupN H' p (Kqb4.add f h) → Q (.ref p) H'
theorem ok_add_fractions (T : Txt K mg A) : FnOk P w K mg base CX0 3 A.f_add_fractions A.fd_add_fractions ["one", "other"] (spAdd K) := by
  have G_lowest_terms := ok_lowest_terms (P := P) (w := w) (base := base) T
  refine T.F_add_fractions.ok sc_add_fractions (fun vs H Q E h => ?_) (fun cdv B outer s H vs Q E hr h => ?_)
  · obtain ⟨a, b, f, h, rfl, _⟩ := h
    rfl
  · obtain ⟨a, b, f, h, rfl, ha, hb, f0, h0, fb, hn, hd, k⟩ := h
    refine ⟨_, (pss_one (ps_ret (pe_call G_lowest_terms (hr.mono (by decide)) rfl T.m_lowest_terms T.F_lowest_terms.kp T.b_lowest_terms .nil pass0 (pa_cons (pe_op op_add (pe_op op_mul (pe_ix (ix_tupK (K := K) rfl) (pv 0) pe_int (fun _ _ => rfl)) (pe_ix (ix_tupK (K := K) rfl) (pv 1) pe_int (fun _ _ => rfl))) (pe_op op_mul (pe_ix (ix_tupK (K := K) rfl) (pv 1) pe_int (fun _ _ => rfl)) (pe_ix (ix_tupK (K := K) rfl) (pv 0) pe_int (fun _ _ => rfl)))) (pa_cons (pe_op op_mul (pe_ix (ix_tupK (K := K) rfl) (pv 0) pe_int (fun _ _ => rfl)) (pe_ix (ix_tupK (K := K) rfl) (pv 1) pe_int (fun _ _ => rfl))) pa_nil))))), ?_⟩
    have mn : -(2 ^ 64) < (h.num : Int) ∧ (h.num : Int) < 2 ^ 64 := ⟨by omega, by omega⟩
    have md : -(2 ^ 64) < (h.den : Int) ∧ (h.den : Int) < 2 ^ 64 := ⟨by omega, by omega⟩
    have hp : f.den * h.den < 2 ^ 256 := Nat.lt_of_le_of_lt (Nat.mul_le_mul fb (Nat.le_of_lt hd)) (by decide)
    refine ⟨_, rfl, a, _, _, _, rfl, rfl, ha, at_of (j := 0) rfl rfl, _, rfl, b, _, _, _, rfl, rfl, hb, at_of (j := 1) rfl rfl, _, _, rfl, rfl, .inr md, _, rfl, b, _, _, _, rfl, rfl, hb, at_of (j := 0) rfl rfl, _, rfl, a, _, _, _, rfl, rfl, ha, at_of (j := 1) rfl rfl, _, _, rfl, rfl, .inl mn, _, _, rfl, rfl,
      _, rfl, a, _, _, _, rfl, rfl, ha, at_of (j := 1) rfl rfl, _, rfl, b, _, _, _, rfl, rfl, hb, at_of (j := 1) rfl rfl, _, _, rfl, rfl, .inr md, ?_⟩
    exact ⟨f.num * h.den + h.num * f.den, f.den * h.den, rfl, Nat.mul_pos f0 h0, hp, k⟩
def spSide (K : PySem.W.Frag) : Sp := fun vs H Q _ => ∃ (a : Addr) (l : List Nat), vs = [.ref a] ∧ SqL K H a (nvs l) ∧ (∀ r ∈ l, 0 < r ∧ r ≤ 100) ∧ l.length ≤ 4 ∧ ∀ H' p, Same H H' → H p = none → tupN H' p (turnF l) → Q (.ref p) H'
theorem ok_side_by_side (T : Txt K mg A) : FnOk P w K mg base CX0 4 A.f_side_by_side A.fd_side_by_side ["resists"] (spSide K) := by
  have G_add_fractions := ok_add_fractions (P := P) (w := w) (base := base) T
  refine T.F_side_by_side.ok sc_side_by_side (fun vs H Q E h => ?_) (fun cdv B outer s H vs Q E hr h => ?_)
  · obtain ⟨a, l, rfl, _⟩ := h
    rfl
  · obtain ⟨a, l, rfl, ha, hl, h4, k⟩ := h
    refine ⟨_, (pss_cons (ps_set (i := 1) sc_side_by_side.nd rfl (by first | exact Or.inl rfl | exact Or.inr rfl) (pe_tup (pa_cons pe_int (pa_cons pe_int pa_nil))))
      (pss_cons (ps_for PassesOwn.never rfl (pi_listK (K := K) rfl (pv 0)) (pg_name (i := 2) sc_side_by_side.nd rfl (by first | exact Or.inl rfl | exact Or.inr rfl)) (pss_one (ps_set (i := 1) sc_side_by_side.nd rfl (by first | exact Or.inl rfl | exact Or.inr rfl) (pe_call G_add_fractions (hr.mono (by decide)) rfl T.m_add_fractions T.F_add_fractions.kp T.b_add_fractions .nil pass0 (pa_cons (pv 1) (pa_cons (pe_tup (pa_cons pe_int (pa_cons (pv 2) pa_nil))) pa_nil))))))
      (pss_one (ps_ret (pe_tup (pa_cons (pe_ix (ix_tupK (K := K) rfl) (pv 1) pe_int (fun _ _ => rfl)) (pa_cons (pe_ix (ix_tupK (K := K) rfl) (pv 1) pe_int (fun _ _ => rfl)) pa_nil))))))), ?_⟩
    refine ⟨(by show 2 ≤ sizeLine; decide), fun t ht => ?_⟩
    have s1 : Same H (upd H t (.tup [.int 0, .int 1])) := (Same.refl H).laid ht
    refine ⟨_, rfl, a, rfl, ⟨_, s1.seq ha⟩, ?_⟩
    refine for_list (xs := nvs l) (fun j σ H2 => ∃ t v2, σ = [some (.ref a), some (.ref t), v2] ∧ Same H H2 ∧ tupN H2 t (sideF (l.take j))) ⟨t, none, rfl, s1, upd_same⟩ (fun j σ H2 _ ⟨_, _, _, s2, _⟩ => s2.seq ha) ?_ ?_
    · rintro j x σ H2 hx ⟨t, v2, rfl, s2, h2⟩
      obtain ⟨r, hr', rfl⟩ := nvs_get hx
      obtain ⟨b0, b1, b2⟩ := side_bd (l := l.take j) (fun z hz => hl z (List.mem_of_mem_take hz)) (by rw [List.length_take]; omega)
      obtain ⟨r0, r1⟩ := hl r (List.mem_of_getElem? hr')
      refine ⟨_, rfl, _, rfl, (by show 2 ≤ sizeLine; decide), fun u hu => ?_⟩
      have s3 : Same H2 (upd H2 u (.tup [.int 1, nv r])) := (Same.refl _).laid hu
      refine ⟨t, u, sideF (l.take j), ⟨1, r⟩, rfl, SqT.of (s3 _ _ h2), SqT.of upd_same, b0, r0, by omega, (by show 1 < 2 ^ 64; decide), (by show r < 2 ^ 64; omega), fun H3 p s4 hp h3 => ?_⟩
      refine ⟨p, _, rfl, s2.trans (s3.trans s4), ?_⟩
      rw [take_snoc hr', side_snoc]
      exact h3
    · rintro σ H2 ⟨t, v2, rfl, s2, h2⟩
      rw [nvs_len, List.take_length] at h2
      refine ⟨_, rfl, t, _, _, _, rfl, rfl, SqT.of h2, at_of (j := 1) rfl rfl, _, rfl, t, _, _, _, rfl, rfl, SqT.of h2, at_of (j := 0) rfl rfl, (by show 2 ≤ sizeLine; decide), fun p hp => ?_⟩
      exact k _ p (s2.laid hp) (s2.free hp) upd_same
def spBehind (K : PySem.W.Frag) : Sp := fun vs H Q _ => ∃ (a : Addr) (l : List Nat) (g : Nat), vs = [.ref a, nv g] ∧ SqL K H a (nvs l) ∧ 0 < g ∧ g ≤ 4 ∧ l.length ≤ 16 ∧ (cuts g l).length ≤ 4 ∧ (∀ r ∈ l, 0 < r ∧ r ≤ 100) ∧
  ∀ H' p, Same H H' → H p = none → tupN H' p (rowF ((cuts g l).map turnF)) → Q (.ref p) H'
theorem ok_behind_one_another (T : Txt K mg A) : FnOk P w K mg base CX0 5 A.f_behind_one_another A.fd_behind_one_another ["resists", "size"] (spBehind K) := by
  have G_add_fractions := ok_add_fractions (P := P) (w := w) (base := base) T
  have G_side_by_side := ok_side_by_side (P := P) (w := w) (base := base) T
  refine T.F_behind_one_another.ok sc_behind_one_another (fun vs H Q E h => ?_) (fun cdv B outer s H vs Q E hr h => ?_)
  · obtain ⟨a, l, g, rfl, _⟩ := h
    rfl
  · obtain ⟨a, l, g, rfl, ha, g0, g4, h16, hc4, hl, k⟩ := h
    refine ⟨_, (pss_cons (ps_set (i := 2) sc_behind_one_another.nd rfl (by first | exact Or.inl rfl | exact Or.inr rfl) (pe_tup (pa_cons pe_int (pa_cons pe_int pa_nil))))
      (pss_cons (ps_for PassesOwn.never rfl (pi_range3 rfl T.b_range (pa_cons pe_int (pa_cons (pe_callB (len_seqK (K := K) rfl) (by rfl) T.b_len boot_len (pa_cons (pv 0) pa_nil)) (pa_cons (pv 1) pa_nil)))) (pg_name (i := 3) sc_behind_one_another.nd rfl (by first | exact Or.inl rfl | exact Or.inr rfl)) (pss_one (ps_set (i := 2) sc_behind_one_another.nd rfl (by first | exact Or.inl rfl | exact Or.inr rfl) (pe_call G_add_fractions (hr.mono (by decide)) rfl T.m_add_fractions T.F_add_fractions.kp T.b_add_fractions .nil pass0 (pa_cons (pv 2) (pa_cons (pe_call G_side_by_side (hr.mono (by decide)) rfl T.m_side_by_side T.F_side_by_side.kp T.b_side_by_side .nil pass0 (pa_cons (pe_slice (sl_listK (K := K) rfl) (pv 0) (po_some (pv 3)) (po_some (pe_op op_add (pv 3) (pv 1)))) pa_nil)) pa_nil))))))
      (pss_one (ps_ret (pv 2))))), ?_⟩
    refine ⟨(by show 2 ≤ sizeLine; decide), fun t ht => ?_⟩
    have s1 : Same H (upd H t (.tup [.int 0, .int 1])) := (Same.refl H).laid ht
    have hcut : ∀ i, i < (l.length + g - 1) / g → 0 < (turnF (cutAt g l i)).den ∧ (turnF (cutAt g l i)).den ≤ 400000000 ∧ (turnF (cutAt g l i)).num ≤ 100000000 := fun i hi => by
      have hr' : ∀ r ∈ cutAt g l i, 0 < r ∧ r ≤ 100 := fun r hr => hl r (cut_mem hr)
      obtain ⟨b0, b1, b2⟩ := side_bd hr' (Nat.le_trans (cut_len g i l) g4)
      exact ⟨side_pos (cut_ne g0 hi) fun r hr => (hr' r hr).1, b2, b1⟩
    refine ⟨_, rfl, a, _, rfl, .inl (s1.seq ha), _, rfl, _, _, _, _, rfl, (by rw [nvs_len]; exact rgC_up g0 (by omega) (by omega)), ?_⟩
    refine for_rangeC (fun i σ H' => ∃ t v3, σ = [some (.ref a), some (nv g), some (.ref t), v3] ∧ Same H H' ∧ H t = none ∧ tupN H' t (rowF (((cuts g l).take i).map turnF))) ⟨t, none, rfl, s1, ht, upd_same⟩ ?_ ?_
    · rintro i σ H2 hi ⟨t, v3, rfl, s2, _, h2⟩
      obtain ⟨c0, c1, c2⟩ := hcut i hi
      obtain ⟨b0, b1⟩ := row_bd (l := ((cuts g l).take i).map turnF) (fun x hx => by
        obtain ⟨c, hc, rfl⟩ := List.mem_map.mp hx
        obtain ⟨m, hm, e⟩ := List.mem_iff_getElem.mp (List.mem_of_mem_take hc)
        rw [cuts_len] at hm
        have := cuts_get hm
        rw [List.getElem?_eq_getElem (by rw [cuts_len]; exact hm), e] at this
        cases this
        exact ⟨(hcut m hm).1, (hcut m hm).2.1⟩) (by rw [List.length_map, List.length_take]; omega)
      refine ⟨_, rfl, _, rfl, _, rfl, _, rfl, _, rfl, _, rfl, _, _, rfl, rfl, _, rfl, a, _, rfl, s2.seq ha, fun p hp => ?_⟩
      have ec : cutV (nvs l) (some (0 + (i : Int) * (g : Int))) (some (0 + (i : Int) * (g : Int) + (g : Int))) = nvs (cutAt g l i) := by
        have e1 : (0 + (i : Int) * (g : Int)) = ((i * g : Nat) : Int) := by rw [Int.zero_add]; exact (Int.natCast_mul i g).symm
        have e2 : (0 + (i : Int) * (g : Int) + (g : Int)) = ((i * g + g : Nat) : Int) := by rw [e1]; omega
        rw [e2, e1, cut_nat, nvs_drop, nvs_take]
        rfl
      have hp1 : (upd H2 p (.lst (cutV (nvs l) (some (0 + (i : Int) * (g : Int))) (some (0 + (i : Int) * (g : Int) + (g : Int)))))) p = some (.lst (nvs (cutAt g l i))) := by rw [upd_same, ec]
      have s3 : Same H2 (upd H2 p (.lst (cutV (nvs l) (some (0 + (i : Int) * (g : Int))) (some (0 + (i : Int) * (g : Int) + (g : Int)))))) := (Same.refl _).laid hp
      generalize upd H2 p (.lst (cutV (nvs l) (some (0 + (i : Int) * (g : Int))) (some (0 + (i : Int) * (g : Int) + (g : Int))))) = H3 at hp1 s3 ⊢
      refine ⟨p, cutAt g l i, rfl, SqL.of hp1, fun r hr => hl r (cut_mem hr), Nat.le_trans (cut_len g i l) g4, fun H4 u s4 hu h4 => ?_⟩
      refine ⟨t, u, _, turnF (cutAt g l i), rfl, SqT.of (s4 _ _ (s3 _ _ h2)), SqT.of h4, b0, c0, b1, by omega, by omega, fun H5 q s5 hq h5 => ?_⟩
      refine ⟨q, _, rfl, s2.trans (s3.trans (s4.trans s5)), (s2.trans (s3.trans s4)).free hq, ?_⟩
      rw [take_snoc (cuts_get hi), List.map_append, List.map_cons, List.map_nil, row_snoc]
      exact h5
    · rintro σ H2 ⟨t, v3, rfl, s2, ft, h2⟩
      rw [← cuts_len, List.take_length] at h2
      exact ⟨_, rfl, k _ t s2 ft h2⟩
end
end CP
end

section
set_option Elab.async false
set_option linter.all false
set_option maxRecDepth 100000
set_option maxHeartbeats 1000000
namespace CP
open PySem PySem.Spec PyProof.Rows L2
section
variable {P : Program} {w : World} {K : PySem.W.Frag} {mg : Str → Option Value} {base : Heap} {A : Ad}
/-! ### the best exchange, the nearest two -/
theorem set_cut {l : List Nat} {k : Nat} (h : k < l.length) (j : Nat) : (nvs l).take k ++ [nv j] ++ (nvs l).drop (k + 1) = nvs (l.set k j) := by
  rw [nvs_take, nvs_drop, List.set_eq_take_append_cons_drop, if_pos h, nvs_app, nvs_cons, List.append_assoc]
  rfl
def spBy (K : PySem.W.Frag) : Sp := fun vs H Q _ => ∃ (a b : Addr) (l hs : List Nat) (g k j : Nat), vs = [.ref a, nv g, .ref b, nv k, nv j] ∧ SqL K H a (nvs l) ∧ SqL K H b (nvs hs) ∧ 0 < g ∧ g < 1000000 ∧ l.length < 1000 ∧ k < l.length ∧ (∀ i ∈ l.set k j, i < hs.length) ∧
  ∀ H', Same H H' → Q (nv (Kqb4.least (tots g hs (l.set k j)))) H'
theorem ok_strength_by (T : Txt K mg A) : FnOk P w K mg base CX0 2 A.f_strength_by A.fd_strength_by ["cells", "size", "holds", "place", "other"] (spBy K) := by
  have G_group_totals := ok_group_totals (P := P) (w := w) (base := base) T
  have G_strength_of := ok_strength_of (P := P) (w := w) (base := base) T
  refine T.F_strength_by.ok sc_strength_by (fun vs H Q E h => ?_) (fun cdv B outer s H vs Q E hr h => ?_)
  · obtain ⟨a, b, l, hs, g, k, j, rfl, _⟩ := h
    rfl
  · obtain ⟨a, b, l, hs, g, k, j, rfl, ha, hb, g0, g1, hl, hk, hin, kk⟩ := h
    refine ⟨_, (pss_cons (ps_set (i := 5) sc_strength_by.nd rfl (by first | exact Or.inl rfl | exact Or.inr rfl) (pe_op op_cat (pe_op op_cat (pe_slice (sl_listK (K := K) rfl) (pv 0) po_none (po_some (pv 3))) (pe_lst (pa_cons (pv 4) pa_nil))) (pe_slice (sl_listK (K := K) rfl) (pv 0) (po_some (pe_op op_add (pv 3) pe_int)) po_none)))
      (pss_one (ps_ret (pe_call G_strength_of (hr.mono (by decide)) rfl T.m_strength_of T.F_strength_of.kp T.b_strength_of .nil pass0 (pa_cons (pe_call G_group_totals (hr.mono (by decide)) rfl T.m_group_totals T.F_group_totals.kp T.b_group_totals .nil pass0 (pa_cons (pv 5) (pa_cons (pv 1) (pa_cons (pv 2) pa_nil)))) pa_nil))))), ?_⟩
    refine ⟨_, rfl, _, rfl, _, rfl, a, _, rfl, ha, fun p1 hp1 => ?_⟩
    rw [cut_to]
    have s1 : ∀ o, Same H (upd H p1 o) := fun o => (Same.refl _).laid hp1
    refine ⟨_, rfl, (by show 1 ≤ sizeLine; decide), fun p2 hp2 => ?_⟩
    have s2 : ∀ o, Same (upd H p1 (.lst ((nvs l).take k))) (upd (upd H p1 (.lst ((nvs l).take k))) p2 o) := fun o => (Same.refl _).laid hp2
    refine ⟨p1, p2, _, _, rfl, rfl, s2 _ _ _ upd_same, upd_same, ?_, fun p3 hp3 => ?_⟩
    · rw [List.length_take, nvs_len, sizeLine_eq]
      show _ + 1 ≤ _
      omega
    have s3 : Same H (upd (upd (upd H p1 (.lst ((nvs l).take k))) p2 (.lst [nv j])) p3 (.lst ((nvs l).take k ++ [nv j]))) := ((s1 _).trans (s2 _)).laid hp3
    have h3 : (upd (upd (upd H p1 (.lst ((nvs l).take k))) p2 (.lst [nv j])) p3 (.lst ((nvs l).take k ++ [nv j]))) p3 = some (.lst ((nvs l).take k ++ [nv j])) := upd_same
    generalize upd (upd (upd H p1 (.lst ((nvs l).take k))) p2 (.lst [nv j])) p3 (.lst ((nvs l).take k ++ [nv j])) = H3 at s3 h3 ⊢
    refine ⟨_, rfl, _, rfl, _, _, rfl, rfl, _, rfl, a, _, rfl, s3.seq ha, fun p4 hp4 => ?_⟩
    rw [show ((k : Int) + 1) = ((k + 1 : Nat) : Int) by omega, cut_from]
    have s4 : ∀ o, Same H3 (upd H3 p4 o) := fun o => (Same.refl _).laid hp4
    refine ⟨p3, p4, _, _, rfl, rfl, s4 _ _ _ h3, upd_same, ?_, fun p5 hp5 => ?_⟩
    · rw [List.length_append, List.length_take, List.length_drop, nvs_len, sizeLine_eq]
      show _ + 1 + _ ≤ _
      omega
    rw [set_cut hk]
    have s5 : Same H (upd (upd H3 p4 (.lst ((nvs l).drop (k + 1)))) p5 (.lst (nvs (l.set k j)))) := (s3.trans (s4 _)).laid hp5
    have h5 : (upd (upd H3 p4 (.lst ((nvs l).drop (k + 1)))) p5 (.lst (nvs (l.set k j)))) p5 = some (.lst (nvs (l.set k j))) := upd_same
    generalize upd (upd H3 p4 (.lst ((nvs l).drop (k + 1)))) p5 (.lst (nvs (l.set k j))) = H5 at s5 h5 ⊢
    refine ⟨_, rfl, _, rfl, _, rfl, p5, b, l.set k j, hs, g, rfl, SqL.of h5, s5.seq hb, g0, g1, by rw [List.length_set]; omega, hin, fun H6 t s6 ht h6 => ?_⟩
    exact ⟨t, _, rfl, SqL.of h6, tots_ne g0 (by rw [List.length_set]; omega), kk _ (s5.trans s6)⟩
/-- what best_exchange gives -/
def ExAt (H H' : Hp) (v4 v5 : V) : Nat × Option (Nat × Nat) → Prop
  | (s, none) => v4 = .non ∧ v5 = nv s
  | (s, some e) => v5 = nv s ∧ ∃ p, v4 = .ref p ∧ H' p = some (.lst [nv s, nv e.1, nv e.2]) ∧ H p = none
theorem ExAt.same {H H1 H2 : Hp} {v4 v5 : V} {x : Nat × Option (Nat × Nat)} (h : ExAt H H1 v4 v5 x) (s : Same H1 H2) : ExAt H H2 v4 v5 x := by
  obtain ⟨n, e⟩ := x
  cases e with
  | none => exact h
  | some e =>
    obtain ⟨h1, p, h2, h3, h4⟩ := h
    exact ⟨h1, p, h2, s _ _ h3, h4⟩
theorem ExAt.num {H H1 : Hp} {v4 v5 : V} {x : Nat × Option (Nat × Nat)} (h : ExAt H H1 v4 v5 x) : v5 = nv x.1 := by
  obtain ⟨n, e⟩ := x
  cases e with
  | none => exact h.2
  | some e => exact h.1
theorem fold_snoc {α β : Type} {f : β → α → β} {b : β} {l : List α} {x : α} : (l ++ [x]).foldl f b = f (l.foldl f b) x := by rw [List.foldl_append]; rfl
def spBestX (K : PySem.W.Frag) : Sp := fun vs H Q _ => ∃ (a c b : Addr) (y : Kqb4.Shop) (p : List (List Nat)) (g : Nat), vs = [.ref a, nv g, .ref c, .ref b] ∧ SqL K H a (nvs p.flatten) ∧ SqL K H c (nvs (Kqb4.loose y)) ∧ SqL K H b (nvs (y.cells.map fun x => x.holds)) ∧ 0 < g ∧ g < 1000000 ∧ (∀ x ∈ p, x.length = g) ∧ p ≠ [] ∧ p.flatten.Nodup ∧
  p.flatten.length < 1000 ∧ (∀ i ∈ p.flatten, i < y.cells.length) ∧ ∀ H' v4 v5, Same H H' → ExAt H H' v4 v5 ((Kqb4.exchanges y p).foldl (topStep fun e => Kqb4.strength y (Kqb4.put p e.1 e.2)) (Kqb4.strength y p, none)) → Q v4 H'
theorem ok_best_exchange (T : Txt K mg A) : FnOk P w K mg base CX0 3 A.f_best_exchange A.fd_best_exchange ["cells", "size", "loose", "holds"] (spBestX K) := by
  have G_group_totals := ok_group_totals (P := P) (w := w) (base := base) T
  have G_strength_by := ok_strength_by (P := P) (w := w) (base := base) T
  have G_strength_of := ok_strength_of (P := P) (w := w) (base := base) T
  refine T.F_best_exchange.ok sc_best_exchange (fun vs H Q E h => ?_) (fun cdv B outer s H vs Q E hr h => ?_)
  · obtain ⟨a, c, b, y, p, g, rfl, _⟩ := h
    rfl
  · obtain ⟨a, c, b, y, p, g, rfl, ha, hc, hb, g0, g1, hg, hne, nd, hl, hin, k⟩ := h
    refine ⟨_, (pss_cons (ps_set (i := 4) sc_best_exchange.nd rfl (by first | exact Or.inl rfl | exact Or.inr rfl) pe_non)
      (pss_cons (ps_set (i := 5) sc_best_exchange.nd rfl (by first | exact Or.inl rfl | exact Or.inr rfl) (pe_call G_strength_of (hr.mono (by decide)) rfl T.m_strength_of T.F_strength_of.kp T.b_strength_of .nil pass0 (pa_cons (pe_call G_group_totals (hr.mono (by decide)) rfl T.m_group_totals T.F_group_totals.kp T.b_group_totals .nil pass0 (pa_cons (pv 0) (pa_cons (pv 1) (pa_cons (pv 3) pa_nil)))) pa_nil)))
      (pss_cons (ps_for PassesOwn.never rfl (pi_enumK (K := K) rfl rfl T.b_enumerate (pa_cons (pv 0) pa_nil)) (pg_tupK (K := K) (n := 2) rfl rfl (pgs_cons (pg_name (i := 6) sc_best_exchange.nd rfl (by first | exact Or.inl rfl | exact Or.inr rfl)) (pgs_cons (pg_name (i := 7) sc_best_exchange.nd rfl (by first | exact Or.inl rfl | exact Or.inr rfl)) pgs_nil))) (pss_one (ps_for PassesOwn.never rfl (pi_listK (K := K) rfl (pv 2)) (pg_name (i := 8) sc_best_exchange.nd rfl (by first | exact Or.inl rfl | exact Or.inr rfl)) (pss_cons (ps_set (i := 9) sc_best_exchange.nd rfl (by first | exact Or.inl rfl | exact Or.inr rfl) (pe_call G_strength_by (hr.mono (by decide)) rfl T.m_strength_by T.F_strength_by.kp T.b_strength_by .nil pass0 (pa_cons (pv 0) (pa_cons (pv 1) (pa_cons (pv 3) (pa_cons (pv 6) (pa_cons (pv 8) pa_nil)))))))
      (pss_one (ps_if (pt_cmpR op_gt (pv 9) (pv 5) (nomark _)) (pss_cons (ps_set (i := 4) sc_best_exchange.nd rfl (by first | exact Or.inl rfl | exact Or.inr rfl) (pe_lst (pa_cons (pv 9) (pa_cons (pv 7) (pa_cons (pv 8) pa_nil)))))
      (pss_one (ps_set (i := 5) sc_best_exchange.nd rfl (by first | exact Or.inl rfl | exact Or.inr rfl) (pv 9)))) pss_nil))))))
      (pss_one (ps_ret (pv 4)))))), ?_⟩
    have hpl : 0 < p.flatten.length := by
      rw [flat_len hg]
      exact Nat.mul_pos (List.length_pos_iff.mpr hne) g0
    have hsl : (y.cells.map fun x => x.holds).length = y.cells.length := List.length_map _
    refine ⟨_, rfl, _, rfl, _, rfl, a, b, p.flatten, _, g, rfl, ha, hb, g0, g1, by omega, fun i hi => by rw [hsl]; exact hin i hi, fun H1 t s1 ht h1 => ?_⟩
    have es : Kqb4.least (tots g (y.cells.map fun x => x.holds) p.flatten) = Kqb4.strength y p := by
      rw [tots_flat g0 y hg]
      rfl
    refine ⟨t, _, rfl, SqL.of h1, tots_ne g0 hpl, ?_⟩
    rw [es]
    refine ⟨_, rfl, a, _, rfl, s1.seq ha, ?_⟩
    refine for_enum (xs := nvs p.flatten) (fun m σ H2 => ∃ v4 v5 v6 v7 v8 v9, σ = [some (.ref a), some (nv g), some (.ref c), some (.ref b), some v4, some v5, v6, v7, v8, v9] ∧ Same H H2 ∧
        ExAt H H2 v4 v5 ((exPre (p.flatten.take m) (Kqb4.loose y)).foldl (topStep fun e => Kqb4.strength y (Kqb4.put p e.1 e.2)) (Kqb4.strength y p, none)))
      ⟨_, _, _, _, _, _, rfl, s1, ⟨rfl, rfl⟩⟩ (fun m σ H2 _ ⟨_, _, _, _, _, _, _, s2, _⟩ => s2.seq ha) ?_ ?_
    · rintro m x σ H2 U hx ⟨v4, v5, v6, v7, v8, v9, rfl, s2, e2⟩ hU
      obtain ⟨i, hi, rfl⟩ := nvs_get hx
      have hm : m < p.flatten.length := (List.getElem?_eq_some_iff.mp hi).1
      have s3 : Same H2 (upd H2 U (.tup [.int (m : Nat), nv i])) := (Same.refl _).laid hU
      refine ⟨U, _, rfl, SqT.of upd_same, rfl, _, _, rfl, _, _, rfl, rfl, ?_⟩
      generalize upd H2 U (.tup [.int (m : Nat), nv i]) = H3 at s3 ⊢
      have s23 := s2.trans s3
      refine ⟨_, rfl, c, rfl, ⟨_, s23.seq hc⟩, ?_⟩
      refine for_list (xs := nvs (Kqb4.loose y)) (fun n σ H4 => ∃ v4 v5 v8 v9, σ = [some (.ref a), some (nv g), some (.ref c), some (.ref b), some v4, some v5, some (nv m), some (nv i), v8, v9] ∧ Same H H4 ∧
          ExAt H H4 v4 v5 ((exPre (p.flatten.take m) (Kqb4.loose y) ++ ((Kqb4.loose y).take n).map fun j => (i, j)).foldl (topStep fun e => Kqb4.strength y (Kqb4.put p e.1 e.2)) (Kqb4.strength y p, none)))
        ⟨_, _, _, _, rfl, s23, by rw [List.take_zero, List.map_nil, List.append_nil]; exact e2.same s3⟩ (fun n σ H4 _ ⟨_, _, _, _, _, s4, _⟩ => s4.seq hc) ?_ ?_
      · rintro n x σ H4 hx ⟨v4, v5, v8, v9, rfl, s4, e4⟩
        obtain ⟨j, hj, rfl⟩ := nvs_get hx
        have hjl : j < y.cells.length := loose_mem (List.mem_of_getElem? hj)
        refine ⟨_, rfl, _, rfl, _, rfl, _, rfl, _, rfl, a, b, p.flatten, _, g, m, j, rfl, s4.seq ha, s4.seq hb, g0, g1, hl, hm, fun z hz => ?_, fun H5 s5 => ?_⟩
        · rw [hsl]
          rcases List.mem_or_eq_of_mem_set hz with h | h
          · exact hin z h
          · rw [h]; exact hjl
        rw [strength_put g0 hg nd hi]
        rw [take_snoc hj, List.map_append, ← List.append_assoc, List.map_cons, List.map_nil, fold_snoc]
        have e5 := e4.same s5
        have n5 := e5.num
        generalize ((exPre (p.flatten.take m) (Kqb4.loose y) ++ ((Kqb4.loose y).take n).map fun j => (i, j)).foldl (topStep fun e => Kqb4.strength y (Kqb4.put p e.1 e.2)) (Kqb4.strength y p, none)) = F at e5 n5 ⊢
        subst n5
        refine ⟨_, rfl, _, rfl, _, _, rfl, rfl, _, rfl, ?_⟩
        unfold topStep
        refine ite2 (fun h => ?_) (fun h => ?_)
        · have h : (F.1 : Int) < (Kqb4.strength y (Kqb4.put p i j) : Int) := of_decide_eq_true h
          refine ⟨_, rfl, _, rfl, _, rfl, (by show 3 ≤ sizeLine; decide), fun q hq => ?_⟩
          refine ⟨_, rfl, _, _, _, _, rfl, (s4.trans s5).laid hq, ?_⟩
          rw [if_pos (show F.1 < Kqb4.strength y (Kqb4.put p (i, j).1 (i, j).2) by show F.1 < Kqb4.strength y (Kqb4.put p i j); omega)]
          exact ⟨rfl, q, rfl, upd_same, (s4.trans s5).free hq⟩
        · have h : ¬ (F.1 : Int) < (Kqb4.strength y (Kqb4.put p i j) : Int) := fun e => h (decide_eq_true e)
          refine ⟨_, _, _, _, rfl, s4.trans s5, ?_⟩
          rw [if_neg (show ¬ F.1 < Kqb4.strength y (Kqb4.put p (i, j).1 (i, j).2) by show ¬ F.1 < Kqb4.strength y (Kqb4.put p i j); omega)]
          exact e5
      · rintro σ H4 ⟨v4, v5, v8, v9, rfl, s4, e4⟩
        rw [nvs_len, List.take_length] at e4
        refine ⟨_, _, _, _, _, _, rfl, s4, ?_⟩
        rw [take_snoc hi, exPre_snoc]
        exact e4
    · rintro σ H2 ⟨v4, v5, v6, v7, v8, v9, rfl, s2, e2⟩
      rw [nvs_len, List.take_length] at e2
      exact ⟨_, rfl, k _ _ _ s2 e2⟩
/-- what nearest_two gives -/
def NearAt (H H' : Hp) (f : Nat × Nat → Nat) (v : V) : Option (Nat × Nat) → Prop
  | none => v = .non
  | some e => ∃ p, v = .ref p ∧ H' p = some (.lst [nv (f e), nv e.1, nv e.2]) ∧ H p = none
theorem NearAt.same {H H1 H2 : Hp} {f : Nat × Nat → Nat} {v : V} {x : Option (Nat × Nat)} (h : NearAt H H1 f v x) (s : Same H1 H2) : NearAt H H2 f v x := by
  cases x with
  | none => exact h
  | some e =>
    obtain ⟨p, h2, h3, h4⟩ := h
    exact ⟨p, h2, s _ _ h3, h4⟩
theorem hs_at {y : Kqb4.Shop} {i : Nat} (h : i < y.cells.length) : (y.cells.map fun x => x.holds)[i]? = some (Kqb4.holds y i) := by
  unfold Kqb4.holds
  rw [List.getElem?_map, List.getElem?_eq_getElem h]
  rfl
theorem abs_far (a b : Nat) : (if (a : Int) - (b : Int) < 0 then -((a : Int) - (b : Int)) else (a : Int) - (b : Int)) = ((max a b - min a b : Nat) : Int) := by
  split <;> omega
def spNear (K : PySem.W.Frag) : Sp := fun vs H Q _ => ∃ (c b : Addr) (y : Kqb4.Shop), vs = [.ref c, .ref b] ∧ SqL K H c (nvs (Kqb4.loose y)) ∧ SqL K H b (nvs (y.cells.map fun x => x.holds)) ∧ y.cells.length ≤ 24 ∧
  ∀ H' v, Same H H' → NearAt H H' (farOf y) v (Kqb4.near y) → Q v H'
theorem ok_nearest_two (T : Txt K mg A) : FnOk P w K mg base CX0 1 A.f_nearest_two A.fd_nearest_two ["loose", "holds"] (spNear K) := by
  refine T.F_nearest_two.ok sc_nearest_two (fun vs H Q E h => ?_) (fun cdv B outer s H vs Q E hr h => ?_)
  · obtain ⟨c, b, y, rfl, _⟩ := h
    rfl
  · obtain ⟨c, b, y, rfl, hc, hb, h24, k⟩ := h
    refine ⟨_, (pss_cons (ps_set (i := 2) sc_nearest_two.nd rfl (by first | exact Or.inl rfl | exact Or.inr rfl) pe_non)
      (pss_cons (ps_for PassesOwn.never rfl (pi_enumK (K := K) rfl rfl T.b_enumerate (pa_cons (pv 0) pa_nil)) (pg_tupK (K := K) (n := 2) rfl rfl (pgs_cons (pg_name (i := 3) sc_nearest_two.nd rfl (by first | exact Or.inl rfl | exact Or.inr rfl)) (pgs_cons (pg_name (i := 4) sc_nearest_two.nd rfl (by first | exact Or.inl rfl | exact Or.inr rfl)) pgs_nil))) (pss_one (ps_for PassesOwn.never rfl (pi_listK (K := K) rfl (pe_slice (sl_listK (K := K) rfl) (pv 0) (po_some (pe_op op_add (pv 3) pe_int)) po_none)) (pg_name (i := 5) sc_nearest_two.nd rfl (by first | exact Or.inl rfl | exact Or.inr rfl)) (pss_cons (ps_set (i := 6) sc_nearest_two.nd rfl (by first | exact Or.inl rfl | exact Or.inr rfl) (pe_callB call_abs (by rfl) T.b_abs boot_abs (pa_cons (pe_op op_sub (pe_ix (ix_listK (K := K) rfl) (pv 1) (pv 4) (fun _ _ => rfl)) (pe_ix (ix_listK (K := K) rfl) (pv 1) (pv 5) (fun _ _ => rfl))) pa_nil)))
      (pss_one (ps_if (PW.pt (pw_or (pt_cmpR op_isN (pv 2) pe_non (nomark _)) (pw_or1 (pt_cmpR op_lt (pv 6) (pe_ix (ix_listK (K := K) rfl) (pv 2) pe_int (fun _ _ => rfl)) (nomark _))))) (pss_one (ps_set (i := 2) sc_nearest_two.nd rfl (by first | exact Or.inl rfl | exact Or.inr rfl) (pe_lst (pa_cons (pv 6) (pa_cons (pv 4) (pa_cons (pv 5) pa_nil)))))) pss_nil))))))
      (pss_one (ps_ret (pv 2))))), ?_⟩
    refine ⟨_, rfl, c, _, rfl, hc, ?_⟩
    refine for_enum (xs := nvs (Kqb4.loose y)) (fun m σ H2 => ∃ v2 v3 v4 v5 v6, σ = [some (.ref c), some (.ref b), some v2, v3, v4, v5, v6] ∧ Same H H2 ∧ NearAt H H2 (farOf y) v2 ((pk m (Kqb4.loose y)).foldl (lowStep (farOf y)) none))
      ⟨_, _, _, _, _, rfl, Same.refl _, rfl⟩ (fun m σ H2 _ ⟨_, _, _, _, _, _, s2, _⟩ => s2.seq hc) ?_ ?_
    · rintro m x σ H2 U hx ⟨v2, v3, v4, v5, v6, rfl, s2, e2⟩ hU
      obtain ⟨i, hi, rfl⟩ := nvs_get hx
      have hil : i < y.cells.length := loose_mem (List.mem_of_getElem? hi)
      have s3 : Same H2 (upd H2 U (.tup [.int (m : Nat), nv i])) := (Same.refl _).laid hU
      refine ⟨U, _, rfl, SqT.of upd_same, rfl, _, _, rfl, _, _, rfl, rfl, ?_⟩
      generalize upd H2 U (.tup [.int (m : Nat), nv i]) = H3 at s3 ⊢
      have s23 := s2.trans s3
      refine ⟨_, rfl, _, rfl, _, _, rfl, rfl, _, rfl, c, _, rfl, s23.seq hc, fun q hq => ?_⟩
      rw [show ((m : Int) + 1) = ((m + 1 : Nat) : Int) by omega, cut_from, nvs_drop]
      have s4 : ∀ o, Same H3 (upd H3 q o) := fun o => (Same.refl _).laid hq
      have h4 : (upd H3 q (.lst (nvs ((Kqb4.loose y).drop (m + 1))))) q = some (.lst (nvs ((Kqb4.loose y).drop (m + 1)))) := upd_same
      have s5 := s23.trans (s4 (.lst (nvs ((Kqb4.loose y).drop (m + 1)))))
      have e4 := (e2.same s3).same (s4 (.lst (nvs ((Kqb4.loose y).drop (m + 1)))))
      generalize upd H3 q (.lst (nvs ((Kqb4.loose y).drop (m + 1)))) = H4 at h4 s5 e4 ⊢
      refine ⟨q, rfl, ⟨_, SqL.of h4⟩, ?_⟩
      refine for_list (xs := nvs ((Kqb4.loose y).drop (m + 1))) (fun n σ H5 => ∃ v2 v5 v6, σ = [some (.ref c), some (.ref b), some v2, some (nv m), some (nv i), v5, v6] ∧ Same H H5 ∧ Same H4 H5 ∧
          NearAt H H5 (farOf y) v2 ((pk m (Kqb4.loose y) ++ (((Kqb4.loose y).drop (m + 1)).take n).map fun j => (i, j)).foldl (lowStep (farOf y)) none))
        ⟨_, _, _, rfl, s5, Same.refl _, by rw [List.take_zero, List.map_nil, List.append_nil]; exact e4⟩ (fun n σ H5 _ ⟨_, _, _, _, _, s6, _⟩ => SqL.of (s6 _ _ h4)) ?_ ?_
      · rintro n x σ H5 hx ⟨v2, v5, v6, rfl, s6, s7, e6⟩
        obtain ⟨j, hj, rfl⟩ := nvs_get hx
        have hjl : j < y.cells.length := loose_mem (List.mem_of_mem_drop (List.mem_of_getElem? hj))
        refine ⟨_, rfl, _, rfl, b, _, _, _, rfl, rfl, s6.seq hb, at_of (j := i) rfl (nvs_at (hs_at hil)), _, rfl, _, rfl, b, _, _, _, rfl, rfl, s6.seq hb, at_of (j := j) rfl (nvs_at (hs_at hjl)), _, _, rfl, rfl, _, rfl, ?_⟩
        rw [abs_far, take_snoc hj, List.map_append, ← List.append_assoc, List.map_cons, List.map_nil, fold_snoc]
        generalize ((pk m (Kqb4.loose y) ++ (((Kqb4.loose y).drop (m + 1)).take n).map fun j => (i, j)).foldl (lowStep (farOf y)) none) = F at e6 ⊢
        cases F with
        | none =>
          have e : v2 = .non := e6
          subst e
          refine ⟨_, rfl, rfl, _, rfl, ?_⟩
          refine ⟨_, rfl, _, rfl, _, rfl, (by show 3 ≤ sizeLine; decide), fun u hu => ?_⟩
          exact ⟨_, _, _, rfl, s6.laid hu, s7.laid hu, u, rfl, upd_same, s6.free hu⟩
        | some v =>
          obtain ⟨u0, rfl, hu0, fu0⟩ := e6
          refine ⟨_, rfl, rfl, _, rfl, ?_⟩
          refine ⟨_, rfl, _, rfl, u0, _, _, _, rfl, rfl, SqL.of hu0, at_of (j := 0) rfl rfl, _, _, rfl, rfl, _, rfl, ?_⟩
          unfold lowStep
          refine ite2 (fun h => ?_) (fun h => ?_)
          · have h : ((max (Kqb4.holds y i) (Kqb4.holds y j) - min (Kqb4.holds y i) (Kqb4.holds y j) : Nat) : Int) < (farOf y v : Int) := of_decide_eq_true h
            have h' : farOf y (i, j) < farOf y v := by
              show max (Kqb4.holds y i) (Kqb4.holds y j) - min (Kqb4.holds y i) (Kqb4.holds y j) < farOf y v
              omega
            refine ⟨_, rfl, _, rfl, _, rfl, (by show 3 ≤ sizeLine; decide), fun u hu => ?_⟩
            refine ⟨_, _, _, rfl, s6.laid hu, s7.laid hu, ?_⟩
            show NearAt _ _ _ _ (if farOf y (i, j) < farOf y v then some (i, j) else some v)
            rw [if_pos h']
            exact ⟨u, rfl, upd_same, s6.free hu⟩
          · have h : ¬ ((max (Kqb4.holds y i) (Kqb4.holds y j) - min (Kqb4.holds y i) (Kqb4.holds y j) : Nat) : Int) < (farOf y v : Int) := fun e => h (decide_eq_true e)
            have h' : ¬ farOf y (i, j) < farOf y v := by
              show ¬ max (Kqb4.holds y i) (Kqb4.holds y j) - min (Kqb4.holds y i) (Kqb4.holds y j) < farOf y v
              omega
            refine ⟨_, _, _, rfl, s6, s7, ?_⟩
            show NearAt _ _ _ _ (if farOf y (i, j) < farOf y v then some (i, j) else some v)
            rw [if_neg h']
            exact ⟨u0, rfl, hu0, fu0⟩
      · rintro σ H5 ⟨v2, v5, v6, rfl, s6, s7, e6⟩
        rw [nvs_len, List.take_length] at e6
        refine ⟨_, _, _, _, _, rfl, s6, ?_⟩
        rw [pk_snoc hi]
        exact e6
    · rintro σ H2 ⟨v2, v3, v4, v5, v6, rfl, s2, e2⟩
      rw [nvs_len, pk_all, ← near_walk] at e2
      exact ⟨_, rfl, k _ _ s2 e2⟩
end
end CP
end

section
set_option Elab.async false
set_option linter.all false
set_option maxRecDepth 100000
set_option maxHeartbeats 1000000
namespace CP
open PySem PySem.Spec PyProof.Rows L2
section
variable {P : Program} {w : World} {K : PySem.W.Frag} {mg : Str → Option Value} {base : Heap} {A : Ad}
/-! ### an exchange, a pack given up -/
theorem nd_inj {α β : Type} {f : α → β} : ∀ {l : List α} {a b : α}, (l.map f).Nodup → a ∈ l → b ∈ l → f a = f b → a = b
  | [], a, b, _, h, _, _ => by simp at h
  | x :: l, a, b, nd, ha, hb, e => by
    obtain ⟨n1, n2⟩ := List.nodup_cons.mp (show (f x :: l.map f).Nodup from nd)
    rcases List.mem_cons.mp ha with h1 | h1
    · rcases List.mem_cons.mp hb with h2 | h2
      · rw [h1, h2]
      · exact absurd (List.mem_map.mpr ⟨b, h2, by rw [← e, h1]⟩) n1
    · rcases List.mem_cons.mp hb with h2 | h2
      · exact absurd (List.mem_map.mpr ⟨a, h1, by rw [e, h2]⟩) n1
      · exact nd_inj n2 h1 h2 e
theorem put_head (q : List (List Nat)) (i j : Nat) : ((Kqb4.put q i j).headD []).length = (q.headD []).length := by
  cases q with
  | nil => rfl
  | cons a q => exact List.length_map _
theorem map_id_of {l : List Nat} {i j : Nat} (h : i ∉ l) : (l.map fun x => if x = i then j else x) = l := by
  induction l with
  | nil => rfl
  | cons a l ih =>
    rw [List.map_cons, ih (fun z => h (by simp [z])), if_neg (fun z => h (by simp [z]))]
theorem Rep.putPack {H H' : Hp} {st a l : Addr} {y : Kqb4.Shop} {L : Loca} {q : List (List Nat)} {i j n : Nat} {x : Kqb4.Cell} (G : Good y) (r : Rep A H st y L) (hx : y.cells[i]? = some x) (hp : x.pack = n + 1) (hm : (n, a, l) ∈ L.ps) (hq : y.packs[n]? = some (some q))
    (hl : H' l = some (.lst (nvs (Kqb4.put q i j).flatten))) (kp : ∀ b o, H b = some o → b ≠ l → H' b = some o) : Rep A H' st { y with packs := y.packs.map fun p => p.map fun q => Kqb4.put q i j } L := by
  obtain ⟨q', hq', pa⟩ := r.packs _ hm
  rw [hq] at hq'
  cases hq'
  have hll : H l = some (.lst (nvs q.flatten)) := pa.2
  obtain ⟨n1, n2⟩ := List.nodup_cons.mp r.lnd
  obtain ⟨n3, n4⟩ := List.nodup_cons.mp n2
  have lm : l ∈ L.ps.map (·.2.2) := List.mem_map.mpr ⟨_, hm, rfl⟩
  have ni : ∀ {b C dx : Addr} {fs}, H b = some (.ins C dx fs) → b ≠ l := fun e z => by rw [z, hll] at e; cases e
  have nk : ∀ {b : Addr} {kvs}, H b = some (.dK kvs) → b ≠ l := fun e z => by rw [z, hll] at e; cases e
  refine ⟨?_, kp _ _ r.bl (fun z => n1 (by rw [z]; exact List.mem_cons_of_mem _ lm)), kp _ _ r.cl (fun z => n3 (by rw [z]; exact lm)), pair_keep (fun b _ z ⟨dz, gz, hz, fz⟩ => ⟨dz, gz, kp _ _ hz (ni hz), fz⟩) r.cells, r.nd, kp _ _ r.pk (nk r.pk), fun p hp' => ?_, fun m q' hq' => ?_, r.knd, r.ind, r.lnd⟩
  · obtain ⟨ds, gs, hs, f⟩ := r.st
    exact ⟨ds, gs, kp _ _ hs (ni hs), f⟩
  · obtain ⟨q1, hq1, ⟨dp, gp, hp1, f⟩, hl1⟩ := r.packs p hp'
    refine ⟨Kqb4.put q1 i j, by show (y.packs.map fun p => p.map fun q => Kqb4.put q i j)[p.1]? = _; rw [List.getElem?_map, hq1]; rfl, ⟨dp, gp, kp _ _ hp1 (ni hp1), by rw [put_head]; exact f⟩, ?_⟩
    by_cases e : p.1 = n
    · have e2 : p = (n, a, l) := nd_inj (f := (·.1)) r.knd hp' hm e
      rw [e2] at hq1 ⊢
      have hq1 : y.packs[n]? = some (some q1) := hq1
      rw [hq] at hq1
      cases hq1
      exact hl
    · have hne : p.2.2 ≠ l := fun z => e (congrArg (·.1) (nd_inj (f := (·.2.2)) n4 hp' hm z))
      have hi : i ∉ q1.flatten := fun hi => by
        obtain ⟨x', hx', hp2, _⟩ := G.inn _ q1 hq1 i hi
        rw [hx] at hx'
        cases hx'
        omega
      rw [put_flat, map_id_of hi]
      exact kp _ _ hl1 hne
  · obtain ⟨q1, h1, _⟩ := packs_map hq'
    exact r.all m q1 h1
theorem index_of {l : List Nat} {i : Nat} (nd : l.Nodup) {k : Nat} (h : l[k]? = some i) : ∀ (m : Nat) (z' : V), m < k → (nvs l)[m]? = some z' → eqV z' (nv i) = false := fun m z' hm hz => by
  obtain ⟨n, hn, rfl⟩ := nvs_get hz
  have hne : n ≠ i := fun e => by
    have : m = k := (List.getElem?_inj (List.getElem?_eq_some_iff.mp hn).1 nd).mp ((hn.trans (congrArg some e)).trans h.symm)
    omega
  show ((n : Int) == (i : Int)) = false
  exact beq_eq_false_iff_ne.mpr fun e => hne (by omega)
theorem eqV_self (n : Nat) : eqV (nv n) (nv n) = true := by
  show ((n : Int) == (n : Int)) = true
  simp
theorem nvs_set' (l : List Nat) (i n : Nat) : (nvs l).set i (nv n) = nvs (l.set i n) := by simp [nvs, List.map_set]
theorem ixN_nat {n k : Nat} (h : k < n) : ixN n (k : Int) = some k := by
  unfold ixN
  rw [if_pos (by omega), if_pos (by omega), Int.toNat_natCast]
def spExch (A : Ad) : Sp := fun vs H Q _ => ∃ (st : Addr) (y : Kqb4.Shop) (L : Loca) (i j : Nat) (x z : Kqb4.Cell), vs = [.ref st, nv i, nv j] ∧ Rep A H st y L ∧ Good y ∧ y.cells[i]? = some x ∧ y.cells[j]? = some z ∧ x.pack ≠ 0 ∧ z.pack = 0 ∧
  ∀ H', Rep A H' st { y with cells := (y.cells.set i { x with pack := 0 }).set j { z with pack := x.pack }, packs := y.packs.map fun p => p.map fun q => Kqb4.put q i j } L → (∀ b o, H b = some o → ¬ Foot L b → H' b = some o) → (∀ b o, H b = some o → ∃ o', H' b = some o') → Q (nv (x.pack - 1)) H'
theorem ok_exchange_cells (T : Txt K mg A) : FnOk P w K mg base CX0 1 A.f_exchange_cells A.fd_exchange_cells ["stock", "i", "j"] (spExch A) := by
  refine T.F_exchange_cells.ok sc_exchange_cells (fun vs H Q E h => ?_) (fun cdv B outer s H vs Q E hr h => ?_)
  · obtain ⟨st, y, L, i, j, x, z, rfl, _⟩ := h
    rfl
  · obtain ⟨st, y, L, i, j, x, z, rfl, R, G, hx, hz, h0, z0, k⟩ := h
    have hu : (B.deeper (envOfC (Str.ofString "exchange_cells") (defScope s_exchange_cells) s.heap.objs.size A.f_exchange_cells cdv)).units + 1 < cLine := by have := hr.units; omega
    refine ⟨_, (pss_cons (ps_set (i := 3) sc_exchange_cells.nd rfl (by first | exact Or.inl rfl | exact Or.inr rfl) (pe_ix (ix_listK (K := K) rfl) (pe_fldK (K := K) rfl (pv 0) rfl) (pv 1) (fun _ _ => rfl)))
      (pss_cons (ps_set (i := 4) sc_exchange_cells.nd rfl (by first | exact Or.inl rfl | exact Or.inr rfl) (pe_ix (ix_listK (K := K) rfl) (pe_fldK (K := K) rfl (pv 0) rfl) (pv 2) (fun _ _ => rfl)))
      (pss_cons (ps_set (i := 5) sc_exchange_cells.nd rfl (by first | exact Or.inl rfl | exact Or.inr rfl) (pe_fldK (K := K) rfl (pv 3) rfl))
      (pss_cons (ps_set (i := 6) sc_exchange_cells.nd rfl (by first | exact Or.inl rfl | exact Or.inr rfl) (pe_dget hu (pe_fldK (K := K) rfl (pv 0) rfl) (pv 5) (fun _ _ => rfl)))
      (pss_cons (ps_asg (pv 2) (pg_sub (pe_fldK (K := K) rfl (pv 6) rfl) (pe_bmK (K := K) rfl PySem.F.plainAttrs_list PySem.F.slot_list_index PySem.F.type_list_index (mt_indexK (K := K) rfl) (pe_fldK (K := K) rfl (pv 6) rfl) (pa_cons (pv 1) pa_nil)) set_list))
      (pss_cons (ps_fldK (K := K) rfl (pv 3) pe_non rfl)
      (pss_cons (ps_fldK (K := K) rfl (pv 4) (pv 5) rfl)
      (pss_one (ps_ret (pv 5)))))))))), ?_⟩
    obtain ⟨dx, fs, hst, f⟩ := R.st
    obtain ⟨n, hn⟩ : ∃ n, x.pack = n + 1 := ⟨x.pack - 1, by omega⟩
    obtain ⟨q, hq, hiq⟩ := G.out i x n hx hn
    have hqD := getD_some.mpr hq
    have qnd := G.nd n q hq
    obtain ⟨kk, hkl, hke⟩ := List.mem_iff_getElem.mp hiq
    have hk : q.flatten[kk]? = some i := by rw [List.getElem?_eq_getElem hkl, hke]
    obtain ⟨ai, hai, di, fi, hci, cfi⟩ := R.cell hx
    obtain ⟨aj, haj, dj, fj, hcj, cfj⟩ := R.cell hz
    obtain ⟨a, l, hm, hv, ⟨da, fa, ha, pf⟩, hll⟩ := R.val hqD
    have hij : i ≠ j := fun e => by rw [e, hz] at hx; cases hx; exact h0 z0
    have ep : packV x.pack = nv n := by rw [hn]; rfl
    refine ⟨_, rfl, st, _, dx, fs, _, rfl, hst, T.C_Stock, T.n_Stock_cells, f.cells, _, rfl, L.cl, _, _, _, rfl, rfl, SqL.of R.cl, at_of (j := i) rfl (refs_at hai), ?_⟩
    refine ⟨_, rfl, st, _, dx, fs, _, rfl, hst, T.C_Stock, T.n_Stock_cells, f.cells, _, rfl, L.cl, _, _, _, rfl, rfl, SqL.of R.cl, at_of (j := j) rfl (refs_at haj), ?_⟩
    refine ⟨_, rfl, ai, _, di, fi, _, rfl, hci, T.C_Cell, T.n_Cell_pack, cfi.pack, ?_⟩
    rw [ep]
    refine ⟨_, rfl, st, _, dx, fs, _, rfl, hst, T.C_Stock, T.n_Stock_packs, f.packs, _, rfl, L.pk, _, rfl, by rw [← hv]; exact DGet.k (k := Sum.inl (n : Int)) R.pk, ?_⟩
    refine ⟨_, rfl, _, rfl, a, _, da, fa, _, rfl, ha, T.C_Pack, T.n_Pack_cells, pf.cells, _, rfl, a, _, da, fa, _, rfl, ha, T.C_Pack, T.n_Pack_cells, pf.cells, .inl ⟨rfl, _, SqL.of hll⟩, _, rfl,
      l, _, _, kk, _, rfl, rfl, SqL.of hll, rfl, nvs_flat _, nvs_at hk, eqV_self i, index_of qnd hk, l, _, _, kk, rfl, rfl, hll, ixN_nat (by rw [nvs_len]; exact hkl), ?_⟩
    rw [nvs_set', ← put_set qnd hk, ← put_flat]
    have hl1 : upd H l (.lst (nvs (Kqb4.put q i j).flatten)) l = some (.lst (nvs (Kqb4.put q i j).flatten)) := upd_same
    have kp1 : ∀ b o, H b = some o → b ≠ l → upd H l (.lst (nvs (Kqb4.put q i j).flatten)) b = some o := fun b o e hb => by rw [upd_ne hb]; exact e
    have dm1 : ∀ b o, H b = some o → ∃ o', upd H l (.lst (nvs (Kqb4.put q i j).flatten)) b = some o' := fun b o e => by
      by_cases hb : b = l
      · exact ⟨_, by rw [hb]; exact hl1⟩
      · exact ⟨_, kp1 b o e hb⟩
    have R1 := R.putPack G hx hn hm hq hl1 kp1
    generalize upd H l (.lst (nvs (Kqb4.put q i j).flatten)) = H1 at hl1 kp1 dm1 R1 ⊢
    have nil : ai ≠ l := fun e => by rw [e, hll] at hci; cases hci
    have hci1 := kp1 _ _ hci nil
    refine ⟨_, rfl, ai, _, di, fi, rfl, hci1, T.C_Cell, T.n_Cell_pack, by have := cfi.len; omega, ?_⟩
    have c2 : CellAt A (upd H1 ai (.ins A.c_Cell di (putF "pack" .non fi))) ai { x with pack := 0 } := ⟨di, _, upd_same, cfi.setPack 0⟩
    have kp2 : ∀ b o, H1 b = some o → b ≠ ai → upd H1 ai (.ins A.c_Cell di (putF "pack" .non fi)) b = some o := fun b o e hb => by rw [upd_ne hb]; exact e
    have dm2 : ∀ b o, H1 b = some o → ∃ o', upd H1 ai (.ins A.c_Cell di (putF "pack" .non fi)) b = some o' := fun b o e => by
      by_cases hb : b = ai
      · exact ⟨_, by rw [hb]; exact upd_same⟩
      · exact ⟨_, kp2 b o e hb⟩
    have R2 := R1.setCell T.cne hai c2 kp2
    generalize upd H1 ai (.ins A.c_Cell di (putF "pack" .non fi)) = H2 at kp2 dm2 R2 ⊢
    have hz2 : (y.cells.set i { x with pack := 0 })[j]? = some z := by rw [List.getElem?_set_ne hij]; exact hz
    obtain ⟨aj2, haj2, dj2, fj2, hcj2, cfj2⟩ := R2.cell hz2
    rw [haj] at haj2
    cases haj2
    refine ⟨_, rfl, _, rfl, aj, _, dj2, fj2, rfl, hcj2, T.C_Cell, T.n_Cell_pack, by have := cfj2.len; omega, ?_⟩
    have c3 : CellAt A (upd H2 aj (.ins A.c_Cell dj2 (putF "pack" (nv n) fj2))) aj { z with pack := x.pack } := ⟨dj2, _, upd_same, by rw [← ep]; exact cfj2.setPack x.pack⟩
    have kp3 : ∀ b o, H2 b = some o → b ≠ aj → upd H2 aj (.ins A.c_Cell dj2 (putF "pack" (nv n) fj2)) b = some o := fun b o e hb => by rw [upd_ne hb]; exact e
    have dm3 : ∀ b o, H2 b = some o → ∃ o', upd H2 aj (.ins A.c_Cell dj2 (putF "pack" (nv n) fj2)) b = some o' := fun b o e => by
      by_cases hb : b = aj
      · exact ⟨_, by rw [hb]; exact upd_same⟩
      · exact ⟨_, kp3 b o e hb⟩
    have R3 := R2.setCell T.cne haj c3 kp3
    generalize upd H2 aj (.ins A.c_Cell dj2 (putF "pack" (nv n) fj2)) = H3 at kp3 dm3 R3 ⊢
    refine ⟨_, rfl, ?_⟩
    have en : x.pack - 1 = n := by omega
    rw [en] at k
    refine k H3 R3 (fun b o e hb => kp3 _ _ (kp2 _ _ (kp1 _ _ e fun z => hb ?_) fun z => hb ?_) fun z => hb ?_) fun b o e => ?_
    · rw [z]; exact .inr (.inr (.inr (.inr (List.mem_map.mpr ⟨_, hm, rfl⟩))))
    · rw [z]; exact foot_cell hai
    · rw [z]; exact foot_cell haj
    · obtain ⟨o1, e1⟩ := dm1 b o e
      obtain ⟨o2, e2⟩ := dm2 b o1 e1
      exact dm3 b o2 e2
/-! ### retire -/
abbrev dropPs (ps : List (Nat × Addr × Addr)) (n : Nat) : List (Nat × Addr × Addr) := ps.filter fun p => decide (p.1 ≠ n)
theorem kvs_drop (ps : List (Nat × Addr × Addr)) (n : Nat) : dropK (kvsOf ps) (Sum.inl (n : Int)) = kvsOf (dropPs ps n) := by
  unfold dropK kvsOf dropPs
  rw [List.filter_map]
  congr 1
  refine List.filter_congr fun p _ => ?_
  show decide ((Sum.inl (p.1 : Int) : Key) ≠ Sum.inl (n : Int)) = decide (p.1 ≠ n)
  refine decide_eq_decide.mpr ⟨fun h e => h (by rw [e]), fun h e => h ?_⟩
  have e : (p.1 : Int) = (n : Int) := Sum.inl.inj e
  omega
theorem sub_nd {α β : Type} {f : α → β} {p : α → Bool} {l : List α} (h : (l.map f).Nodup) : ((l.filter p).map f).Nodup := List.Pairwise.sublist (List.Sublist.map f List.filter_sublist) h
theorem Rep.dropPack {H H' : Hp} {st : Addr} {y : Kqb4.Shop} {L : Loca} {n : Nat} {q : List (List Nat)} (r : Rep A H st y L) (hq : y.packs[n]? = some (some q)) (hpk : H' L.pk = some (.dK (kvsOf (dropPs L.ps n)))) (kp : ∀ b o, H b = some o → b ≠ L.pk → H' b = some o) :
    Rep A H' st { y with packs := y.packs.set n none } { L with ps := dropPs L.ps n } := by
  have ni : ∀ {b C dx : Addr} {fs}, H b = some (.ins C dx fs) → b ≠ L.pk := fun e z => by rw [z, r.pk] at e; cases e
  have nl : ∀ {b : Addr} {xs : List V}, H b = some (.lst xs) → b ≠ L.pk := fun e z => by rw [z, r.pk] at e; cases e
  have hn : n < y.packs.length := (List.getElem?_eq_some_iff.mp hq).1
  refine ⟨?_, kp _ _ r.bl (nl r.bl), kp _ _ r.cl (nl r.cl), pair_keep (fun b _ z ⟨dz, gz, hz, fz⟩ => ⟨dz, gz, kp _ _ hz (ni hz), fz⟩) r.cells, r.nd, hpk, fun p hp => ?_, fun m q' hq' => ?_, sub_nd r.knd, sub_nd r.ind, ?_⟩
  · obtain ⟨ds, gs, hs, f⟩ := r.st
    exact ⟨ds, gs, kp _ _ hs (ni hs), f⟩
  · obtain ⟨hp1, hp2⟩ := List.mem_filter.mp hp
    have hp2 : p.1 ≠ n := of_decide_eq_true hp2
    obtain ⟨q', hq', ⟨dp, gp, hp3, f⟩, hl⟩ := r.packs p hp1
    exact ⟨q', by show (y.packs.set n none)[p.1]? = _; rw [List.getElem?_set_ne (Ne.symm hp2)]; exact hq', ⟨dp, gp, kp _ _ hp3 (ni hp3), f⟩, kp _ _ hl (nl hl)⟩
  · have hq' : (y.packs.set n none)[m]? = some (some q') := hq'
    by_cases e : m = n
    · rw [e, List.getElem?_set_self hn] at hq'
      cases hq'
    · rw [List.getElem?_set_ne (Ne.symm e)] at hq'
      obtain ⟨a', l', h⟩ := r.all m q' hq'
      exact ⟨a', l', List.mem_filter.mpr ⟨h, decide_eq_true e⟩⟩
  · exact List.Pairwise.sublist (List.Sublist.cons₂ _ (List.Sublist.cons₂ _ (List.Sublist.map _ List.filter_sublist))) r.lnd
def spRem (A : Ad) : Sp := fun vs H Q _ => ∃ (st : Addr) (y : Kqb4.Shop) (L : Loca) (n : Nat) (q : List (List Nat)), vs = [.ref st, nv n] ∧ Rep A H st y L ∧ Good y ∧ y.packs.getD n none = some q ∧
  ∀ H' L', Rep A H' st { y with cells := Kqb4.mark y q.flatten 0, packs := y.packs.set n none } L' → (∀ b o, H b = some o → ¬ Foot L b → H' b = some o) → (∀ b, Foot L' b → Foot L b) → (∀ b o, H b = some o → ∃ o', H' b = some o') → L'.bl = L.bl → Q (nv q.flatten.length) H'
theorem ok_remove_pack (T : Txt K mg A) : FnOk P w K mg base CX0 1 A.f_remove_pack A.fd_remove_pack ["stock", "number"] (spRem A) := by
  refine T.F_remove_pack.ok sc_remove_pack (fun vs H Q E h => ?_) (fun cdv B outer s H vs Q E hr h => ?_)
  · obtain ⟨st, y, L, n, q, rfl, _⟩ := h
    rfl
  · obtain ⟨st, y, L, n, q, rfl, R, G, hqD, k⟩ := h
    have hq := getD_some.mp hqD
    refine ⟨_, (pss_cons (ps_set (i := 2) sc_remove_pack.nd rfl (by first | exact Or.inl rfl | exact Or.inr rfl) (pe_dpop1 (pe_fldK (K := K) rfl (pv 0) rfl) (pv 1) ⟨rfl, rfl, rfl, rfl⟩))
      (pss_cons (ps_for PassesOwn.never rfl (pi_listK (K := K) rfl (pe_fldK (K := K) rfl (pv 2) rfl)) (pg_name (i := 3) sc_remove_pack.nd rfl (by first | exact Or.inl rfl | exact Or.inr rfl)) (pss_cons (ps_set (i := 4) sc_remove_pack.nd rfl (by first | exact Or.inl rfl | exact Or.inr rfl) (pe_ix (ix_listK (K := K) rfl) (pe_fldK (K := K) rfl (pv 0) rfl) (pv 3) (fun _ _ => rfl)))
      (pss_one (ps_fldK (K := K) rfl (pv 4) pe_non rfl))))
      (pss_one (ps_ret (pe_callB (len_seqK (K := K) rfl) (by rfl) T.b_len boot_len (pa_cons (pe_fldK (K := K) rfl (pv 2) rfl) pa_nil)))))), ?_⟩
    obtain ⟨dx, fs, hst, f⟩ := R.st
    obtain ⟨a, l, hm, hv, ⟨da, fa, ha, pf⟩, hll⟩ := R.val hqD
    refine ⟨_, rfl, st, _, dx, fs, _, rfl, hst, T.C_Stock, T.n_Stock_packs, f.packs, L.pk, rfl, .inl ⟨_, .inl R.pk⟩, _, rfl, _, Sum.inl (n : Int), _, R.pk, rfl, hv, ?_⟩
    rw [show (L.ps.map fun p => ((Sum.inl (p.1 : Int) : Key), V.ref p.2.1)) = kvsOf L.ps from rfl, kvs_drop]
    have hpk1 : upd H L.pk (.dK (kvsOf (dropPs L.ps n))) L.pk = some (.dK (kvsOf (dropPs L.ps n))) := upd_same
    have kp1 : ∀ b o, H b = some o → b ≠ L.pk → upd H L.pk (.dK (kvsOf (dropPs L.ps n))) b = some o := fun b o e hb => by rw [upd_ne hb]; exact e
    have dm1 : ∀ b o, H b = some o → ∃ o', upd H L.pk (.dK (kvsOf (dropPs L.ps n))) b = some o' := fun b o e => by
      by_cases hb : b = L.pk
      · exact ⟨_, by rw [hb]; exact hpk1⟩
      · exact ⟨_, kp1 b o e hb⟩
    have R1 := R.dropPack hq hpk1 kp1
    generalize upd H L.pk (.dK (kvsOf (dropPs L.ps n))) = H1 at hpk1 kp1 dm1 R1 ⊢
    have ha1 := kp1 _ _ ha (fun z => by rw [z, R.pk] at ha; cases ha)
    have hl1 := kp1 _ _ hll (fun z => by rw [z, R.pk] at hll; cases hll)
    have nas : ∀ {b : Addr}, b ∈ L.as → ∃ C dx fs, H1 b = some (.ins C dx fs) ∧ C = A.c_Cell := fun {b} hb => by
      obtain ⟨i, hi, e⟩ := List.mem_iff_getElem.mp hb
      obtain ⟨x, _, dz, fz, hz, _⟩ := paired_get R1.cells (List.getElem?_eq_getElem (l := L.as) hi)
      exact ⟨_, dz, fz, by rw [← e]; exact hz, rfl⟩
    have lnas : l ∉ L.as := fun hb => by
      obtain ⟨C, d, g, h, _⟩ := nas hb
      rw [hl1] at h
      cases h
    have anas : a ∉ L.as := fun hb => by
      obtain ⟨C, d, g, h, e⟩ := nas hb
      rw [ha1] at h
      cases h
      exact T.cne.cp e.symm
    refine ⟨_, rfl, a, _, da, fa, _, rfl, ha1, T.C_Pack, T.n_Pack_cells, pf.cells, l, rfl, ⟨_, SqL.of hl1⟩, ?_⟩
    refine for_list (xs := nvs q.flatten) (fun j σ H3 => ∃ v3 v4, σ = [some (.ref st), some (nv n), some (.ref a), v3, v4] ∧ Rep A H3 st { y with cells := Kqb4.mark y (q.flatten.take j) 0, packs := y.packs.set n none } { L with ps := dropPs L.ps n } ∧
        (∀ b o, H1 b = some o → b ∉ L.as → H3 b = some o) ∧ ∀ b o, H1 b = some o → ∃ o', H3 b = some o') ⟨none, none, rfl, by rw [List.take_zero, mark_nil]; exact R1, fun b o e _ => e, fun b o e => ⟨o, e⟩⟩ (fun j σ H3 _ ⟨_, _, _, R3, k3, _⟩ => SqL.of (k3 _ _ hl1 lnas)) ?_ ?_
    · rintro j v σ H3 hv ⟨v3, v4, rfl, R3, k3, dm3⟩
      obtain ⟨i, hi, rfl⟩ := nvs_get hv
      obtain ⟨x0, hx0, _⟩ := G.inn n q hq i (List.mem_of_getElem? hi)
      have him : i < y.cells.length := (List.getElem?_eq_some_iff.mp hx0).1
      obtain ⟨x, hx⟩ : ∃ x, (Kqb4.mark y (q.flatten.take j) 0)[i]? = some x := ⟨_, List.getElem?_eq_getElem (by rw [mark_len]; exact him)⟩
      obtain ⟨ca, hca, dc, fc', hcc, cf⟩ := R3.cell hx
      obtain ⟨dx3, fs3, hst3, f3⟩ := R3.st
      refine ⟨_, rfl, st, _, dx3, fs3, _, rfl, hst3, T.C_Stock, T.n_Stock_cells, f3.cells, _, rfl, L.cl, _, _, _, rfl, rfl, SqL.of R3.cl, at_of (j := i) rfl (refs_at hca), ?_⟩
      refine ⟨_, rfl, ca, _, dc, fc', rfl, hcc, T.C_Cell, T.n_Cell_pack, by have := cf.len; omega, ?_⟩
      have cf4 := cf.setPack 0
      refine ⟨_, _, rfl, ?_, fun b o e hb => ?_, fun b o e => ?_⟩
      · rw [take_snoc hi, mark_snoc hx]
        exact R3.setCell T.cne (x' := { x with pack := 0 }) hca ⟨dc, _, upd_same, cf4⟩ fun b o e hb => by rw [upd_ne hb]; exact e
      · rw [upd_ne (fun (z : b = ca) => hb (z ▸ List.mem_of_getElem? hca))]
        exact k3 _ _ e hb
      · by_cases z : b = ca
        · exact ⟨_, by rw [z]; exact upd_same⟩
        · rw [upd_ne z]
          exact dm3 b o e
    · rintro σ H3 ⟨v3, v4, rfl, R3, k3, dm3⟩
      rw [nvs_len, List.take_length] at R3
      refine ⟨_, rfl, a, _, da, fa, _, rfl, k3 _ _ ha1 anas, T.C_Pack, T.n_Pack_cells, pf.cells, l, _, rfl, .inl (SqL.of (k3 _ _ hl1 lnas)), ?_⟩
      rw [nvs_len]
      refine k _ _ R3 (fun b o e hb => k3 _ _ (kp1 b o e fun z => hb (.inr (.inl z))) fun z => hb (.inl z)) (fun b h => ?_) (fun b o e => ?_) rfl
      · rcases h with h | h | h | h | h
        · exact .inl h
        · exact .inr (.inl h)
        · exact .inr (.inr (.inl h))
        · obtain ⟨p, hp, e⟩ := List.mem_map.mp h
          exact .inr (.inr (.inr (.inl (List.mem_map.mpr ⟨p, (List.mem_filter.mp hp).1, e⟩))))
        · obtain ⟨p, hp, e⟩ := List.mem_map.mp h
          exact .inr (.inr (.inr (.inr (List.mem_map.mpr ⟨p, (List.mem_filter.mp hp).1, e⟩))))
      · obtain ⟨o1, e1⟩ := dm1 b o e
        exact dm3 b o1 e1
end
end CP
end

section
set_option Elab.async false
set_option linter.all false
set_option maxRecDepth 100000
set_option maxHeartbeats 1000000
namespace CP
open PySem PySem.Spec PyProof.Rows L2
section
variable {P : Program} {w : World} {K : PySem.W.Frag} {mg : Str → Option Value} {base : Heap} {A : Ad}
def mkWeak : List Nat → Option Kqb4.Call | [p] => some (.weak p) | _ => none
def mkLacks : List Nat → Option Kqb4.Call | [p] => some (.lacks p) | _ => none
def mkBetter : List Nat → Option Kqb4.Call | [p] => some (.better p) | _ => none
def mkExchange : List Nat → Option Kqb4.Call | [i, j] => some (.exchange i j) | _ => none
def mkResists : List Nat → Option Kqb4.Call | [p] => some (.resists p) | _ => none
def mkNear : List Nat → Option Kqb4.Call | [] => some .near | _ => none
def mkLoose : List Nat → Option Kqb4.Call | [] => some .loose | _ => none
def mkRetire : List Nat → Option Kqb4.Call | [p] => some (.retire p) | _ => none
def mkLook : List Nat → Option Kqb4.Call | [i] => some (.look i) | _ => none
def mkState : List Nat → Option Kqb4.Call | [] => some .state | _ => none
theorem mkWeak_is {ns : List Nat} {c : Kqb4.Call} (h : mkWeak ns = some c) : ∃ p, ns = [p] ∧ c = .weak p := match ns, h with | [i], h => ⟨i, rfl, (Option.some.inj h).symm⟩
theorem mkLacks_is {ns : List Nat} {c : Kqb4.Call} (h : mkLacks ns = some c) : ∃ p, ns = [p] ∧ c = .lacks p := match ns, h with | [i], h => ⟨i, rfl, (Option.some.inj h).symm⟩
theorem mkBetter_is {ns : List Nat} {c : Kqb4.Call} (h : mkBetter ns = some c) : ∃ p, ns = [p] ∧ c = .better p := match ns, h with | [i], h => ⟨i, rfl, (Option.some.inj h).symm⟩
theorem mkExchange_is {ns : List Nat} {c : Kqb4.Call} (h : mkExchange ns = some c) : ∃ i j, ns = [i, j] ∧ c = .exchange i j := match ns, h with | [i, j], h => ⟨i, j, rfl, (Option.some.inj h).symm⟩
theorem mkResists_is {ns : List Nat} {c : Kqb4.Call} (h : mkResists ns = some c) : ∃ p, ns = [p] ∧ c = .resists p := match ns, h with | [i], h => ⟨i, rfl, (Option.some.inj h).symm⟩
theorem mkNear_is {ns : List Nat} {c : Kqb4.Call} (h : mkNear ns = some c) : ns = [] ∧ c = .near := match ns, h with | [], h => ⟨rfl, (Option.some.inj h).symm⟩
theorem mkLoose_is {ns : List Nat} {c : Kqb4.Call} (h : mkLoose ns = some c) : ns = [] ∧ c = .loose := match ns, h with | [], h => ⟨rfl, (Option.some.inj h).symm⟩
theorem mkRetire_is {ns : List Nat} {c : Kqb4.Call} (h : mkRetire ns = some c) : ∃ p, ns = [p] ∧ c = .retire p := match ns, h with | [i], h => ⟨i, rfl, (Option.some.inj h).symm⟩
theorem mkLook_is {ns : List Nat} {c : Kqb4.Call} (h : mkLook ns = some c) : ∃ i, ns = [i] ∧ c = .look i := match ns, h with | [i], h => ⟨i, rfl, (Option.some.inj h).symm⟩
theorem mkState_is {ns : List Nat} {c : Kqb4.Call} (h : mkState ns = some c) : ns = [] ∧ c = .state := match ns, h with | [], h => ⟨rfl, (Option.some.inj h).symm⟩
theorem min_least {ts : List Nat} {m : Int} (hm : m ∈ ts.map fun (n : Nat) => (n : Int)) (hle : ∀ z ∈ ts.map (fun (n : Nat) => (n : Int)), m ≤ z) : m = (Kqb4.least ts : Int) := by
  obtain ⟨n, hn, rfl⟩ := ints_of_nat hm
  rw [least_eq hn fun y hy => by have := hle (y : Int) (List.mem_map.mpr ⟨y, hy, rfl⟩); omega]
theorem max_greatest {ts : List Nat} {m : Int} (hm : m ∈ ts.map fun (n : Nat) => (n : Int)) (hle : ∀ z ∈ ts.map (fun (n : Nat) => (n : Int)), z ≤ m) : m = (Kqb4.greatest ts : Int) := by
  obtain ⟨n, hn, rfl⟩ := ints_of_nat hm
  rw [greatest_eq hn fun y hy => by have := hle (y : Int) (List.mem_map.mpr ⟨y, hy, rfl⟩); omega]
theorem find_index {ts : List Nat} {s : Nat} (h : s ∈ ts) : (nvs ts)[ts.findIdx fun h => h == s]? = some (nv s) ∧ ∀ (m : Nat) (z' : V), m < (ts.findIdx fun h => h == s) → (nvs ts)[m]? = some z' → eqV z' (nv s) = false := by
  have hl : (ts.findIdx fun h => h == s) < ts.length := List.findIdx_lt_length_of_exists ⟨s, h, by simp⟩
  refine ⟨nvs_at ?_, fun m z' hm hz => ?_⟩
  · have := List.findIdx_getElem (w := hl)
    rw [List.getElem?_eq_getElem hl]
    congr 1
    simpa using this
  · obtain ⟨n, hn, rfl⟩ := nvs_get hz
    have := List.not_of_lt_findIdx hm
    obtain ⟨hm', e⟩ := List.getElem?_eq_some_iff.mp hn
    have hne : n ≠ s := fun e2 => by
      rw [e2] at e
      simp [e] at this
    show ((n : Int) == (s : Int)) = false
    exact beq_eq_false_iff_ne.mpr fun e => hne (by omega)
theorem ok_tell_weak (T : Txt K mg A) : FnOk P w K mg base CX0 3 A.f_tell_weak A.fd_tell_weak ["stock", "p"] (spAct A mkWeak okT) := by
  have G_totals_of := ok_totals_of (P := P) (w := w) (base := base) T
  refine T.F_tell_weak.ok sc_tell_weak (fun vs H Q E h => ?_) (fun cdv B outer s H vs Q E hr h => ?_)
  · obtain ⟨st, y, L, ns, c, rfl, hm, _⟩ := h
    obtain ⟨i, rfl, rfl⟩ := mkWeak_is hm
    rfl
  · obtain ⟨st, y, L, ns, c, rfl, hm, _, R, G, _, k⟩ := h
    obtain ⟨n, rfl, rfl⟩ := mkWeak_is hm
    have hu : (B.deeper (envOfC (Str.ofString "tell_weak") (defScope s_tell_weak) s.heap.objs.size A.f_tell_weak cdv)).units + 1 < cLine := by have := hr.units; omega
    refine ⟨_, (pss_cons (ps_if (pt_cmp (pc_dnotin hu (pv 1) (pe_fldK (K := K) rfl (pv 0) rfl)) (by with_unfolding_all rfl)) (pss_one (ps_ret (pe_lst (pa_cons (pe_globI rfl T.m_NO_SUCH) pa_nil)))) pss_nil)
      (pss_cons (ps_set (i := 2) sc_tell_weak.nd rfl (by first | exact Or.inl rfl | exact Or.inr rfl) (pe_call G_totals_of (hr.mono (by decide)) rfl T.m_totals_of T.F_totals_of.kp T.b_totals_of .nil pass0 (pa_cons (pv 0) (pa_cons (pv 1) pa_nil))))
      (pss_cons (ps_set (i := 3) sc_tell_weak.nd rfl (by first | exact Or.inl rfl | exact Or.inr rfl) (pe_callB (minK (K := K) rfl rfl) (by rfl) T.b_min boot_min (pa_cons (pv 2) pa_nil)))
      (pss_one (ps_ret (pe_lst (pa_cons (pe_bmK (K := K) rfl PySem.F.plainAttrs_list PySem.F.slot_list_index PySem.F.type_list_index (mt_indexK (K := K) rfl) (pv 2) (pa_cons (pv 3) pa_nil)) (pa_cons (pv 3) pa_nil)))))))), ?_⟩
    obtain ⟨dx, fs, hst, f⟩ := R.st
    refine ⟨_, rfl, _, rfl, st, _, dx, fs, _, rfl, hst, T.C_Stock, T.n_Stock_packs, f.packs, L.pk, _, rfl, DGet.k (k := Sum.inl (n : Int)) R.pk, _, rfl, ?_⟩
    rw [R.isSome]
    cases e : y.packs.getD n none with
    | none =>
      refine ⟨(by show 1 ≤ sizeLine; decide), fun p hp => ?_⟩
      exact k.read R rfl ((Same.refl _).laid hp) hp (ans := [-2]) (by simp only [Kqb4.step, Kqb4.ofPack, e]; rfl) upd_same
    | some q =>
      obtain ⟨g, g0, g4, hl, hne, hq4, hh, hfl, hin⟩ := G.pack e
      refine ⟨_, rfl, _, rfl, st, y, L, n, q, rfl, R, G, e, fun H2 t s2 ht h2 => ?_⟩
      have hn : q.map (Kqb4.group y) ≠ [] := by simpa using hne
      refine ⟨_, rfl, t, _, rfl, SqL.of h2, by simpa using List.length_pos_iff.mpr hn, fun m hm hle => ?_⟩
      have em := min_least hm hle
      subst em
      obtain ⟨f1, f2⟩ := find_index (least_mem hn)
      refine ⟨_, rfl, .inl ⟨rfl, _, SqL.of h2⟩, _, rfl, t, _, _, _, _, rfl, rfl, SqL.of h2, rfl, nvs_flat _, f1, eqV_self _, f2, _, rfl, (by show 2 ≤ sizeLine; decide), fun p hp => ?_⟩
      refine k.read R rfl (s2.laid hp) (s2.free hp) (ans := [(((q.map (Kqb4.group y)).findIdx fun h => h == Kqb4.strength y q : Nat) : Int), (Kqb4.strength y q : Int)]) ?_ upd_same
      simp only [Kqb4.step, Kqb4.ofPack, e]
      rfl
theorem ok_tell_lacks (T : Txt K mg A) : FnOk P w K mg base CX0 3 A.f_tell_lacks A.fd_tell_lacks ["stock", "p"] (spAct A mkLacks okT) := by
  have G_totals_of := ok_totals_of (P := P) (w := w) (base := base) T
  refine T.F_tell_lacks.ok sc_tell_lacks (fun vs H Q E h => ?_) (fun cdv B outer s H vs Q E hr h => ?_)
  · obtain ⟨st, y, L, ns, c, rfl, hm, _⟩ := h
    obtain ⟨i, rfl, rfl⟩ := mkLacks_is hm
    rfl
  · obtain ⟨st, y, L, ns, c, rfl, hm, _, R, G, _, k⟩ := h
    obtain ⟨n, rfl, rfl⟩ := mkLacks_is hm
    have hu : (B.deeper (envOfC (Str.ofString "tell_lacks") (defScope s_tell_lacks) s.heap.objs.size A.f_tell_lacks cdv)).units + 1 < cLine := by have := hr.units; omega
    refine ⟨_, (pss_cons (ps_if (pt_cmp (pc_dnotin hu (pv 1) (pe_fldK (K := K) rfl (pv 0) rfl)) (by with_unfolding_all rfl)) (pss_one (ps_ret (pe_lst (pa_cons (pe_globI rfl T.m_NO_SUCH) pa_nil)))) pss_nil)
      (pss_cons (ps_set (i := 2) sc_tell_lacks.nd rfl (by first | exact Or.inl rfl | exact Or.inr rfl) (pe_call G_totals_of (hr.mono (by decide)) rfl T.m_totals_of T.F_totals_of.kp T.b_totals_of .nil pass0 (pa_cons (pv 0) (pa_cons (pv 1) pa_nil))))
      (pss_cons (ps_set (i := 3) sc_tell_lacks.nd rfl (by first | exact Or.inl rfl | exact Or.inr rfl) (pe_callB (maxK (K := K) rfl rfl) (by rfl) T.b_max boot_max (pa_cons (pv 2) pa_nil)))
      (pss_one (ps_ret (pe_op op_cat (pe_lst (pa_cons (pe_callB (len_seqK (K := K) rfl) (by rfl) T.b_len boot_len (pa_cons (pv 2) pa_nil)) pa_nil)) (pe_lc rfl sc_tell_lacks.nd (own := [("total", 4)]) (pi_listK (K := K) rfl (pv 2)) (blkOk_by (by show blkC ["stock", "p", "totals", "strongest", "total"] (defScope s_tell_lacks) _ _ = true; decide +kernel)) (fun _ _ _ _ _ => (pg_name (i := 4) sc_tell_lacks.nd rfl (by first | exact Or.inl rfl | exact Or.inr rfl))) (fun _ _ _ _ _ => pts_nil) (fun _ _ _ _ _ => (pe_op op_sub (pv 3) (pv 4)))))))))), ?_⟩
    obtain ⟨dx, fs, hst, f⟩ := R.st
    refine ⟨_, rfl, _, rfl, st, _, dx, fs, _, rfl, hst, T.C_Stock, T.n_Stock_packs, f.packs, L.pk, _, rfl, DGet.k (k := Sum.inl (n : Int)) R.pk, _, rfl, ?_⟩
    rw [R.isSome]
    cases e : y.packs.getD n none with
    | none =>
      refine ⟨(by show 1 ≤ sizeLine; decide), fun p hp => ?_⟩
      exact k.read R rfl ((Same.refl _).laid hp) hp (ans := [-2]) (by simp only [Kqb4.step, Kqb4.ofPack, e]; rfl) upd_same
    | some q =>
      obtain ⟨g, g0, g4, hl, hne, hq4, hh, hfl, hin⟩ := G.pack e
      refine ⟨_, rfl, _, rfl, st, y, L, n, q, rfl, R, G, e, fun H2 t s2 ht h2 => ?_⟩
      have hn : q.map (Kqb4.group y) ≠ [] := by simpa using hne
      have htl : (q.map (Kqb4.group y)).length = q.length := List.length_map _
      refine ⟨_, rfl, t, _, rfl, SqL.of h2, by simpa using List.length_pos_iff.mpr hn, fun m hm hle => ?_⟩
      have em := max_greatest hm hle
      subst em
      generalize hts : q.map (Kqb4.group y) = ts at h2 hn htl
      refine ⟨_, rfl, t, _, rfl, .inl (SqL.of h2), (by show 1 ≤ sizeLine; decide), fun u hu' => ?_⟩
      have s3 : ∀ o, Same H2 (upd H2 u o) := fun o => (Same.refl _).laid hu'
      refine ⟨_, rfl, t, rfl, ⟨_, SqL.of (s3 _ _ _ h2)⟩, fun D hD => ?_⟩
      rw [nvs_len]
      have h3 : upd H2 u (.lst [V.int (ts.length : Int)]) u = some (.lst [V.int (ts.length : Int)]) := upd_same
      have s4 := s3 (.lst [V.int (ts.length : Int)])
      rw [nvs_len] at hD
      generalize upd H2 u (.lst [V.int (ts.length : Int)]) = H3 at h3 s4 hD ⊢
      have h2' := s4 _ _ h2
      refine lc_list (xs := nvs ts) (fun j H4 => Same H3 H4 ∧ H4 D = some (.lst (nvs ((ts.map fun h => Kqb4.greatest ts - h).take j)))) ⟨(Same.refl _).laid hD, upd_same⟩ (fun j H4 _ z => SqL.of (z.1 _ _ h2')) ?_ ?_
      · rintro j v H4 hv ⟨s5, h5⟩
        obtain ⟨x, hx, rfl⟩ := nvs_get hv
        have hxm := le_greatest (List.mem_of_getElem? hx)
        refine ⟨rfl, _, rfl, _, rfl, _, _, rfl, rfl, _, h5, ?_, s5.put hD, ?_⟩
        · rw [nvs_len, List.length_take, List.length_map, sizeLine_eq]
          omega
        · rw [upd_same, take_snoc (x := Kqb4.greatest ts - x) (by rw [List.getElem?_map, hx]; rfl), nvs_app]
          refine congrArg (fun z => some (HO.lst z)) (congrArg (fun z => nvs _ ++ [V.int z]) ?_)
          show (Kqb4.greatest ts : Int) - (x : Int) = ((Kqb4.greatest ts - x : Nat) : Int)
          omega
      · rintro H4 ⟨s5, h5⟩
        rw [nvs_len, List.take_of_length_le (by rw [List.length_map]; exact Nat.le_refl _)] at h5
        have s6 := s2.trans (s4.trans s5)
        refine ⟨u, D, _, _, rfl, rfl, s5 _ _ h3, h5, ?_, fun p hp => ?_⟩
        · rw [nvs_len, List.length_map, sizeLine_eq]
          show 1 + _ ≤ _
          omega
        · refine k.read R rfl (s6.laid hp) (s6.free hp) (ans := (q.length : Int) :: ((q.map fun l => Kqb4.greatest (q.map (Kqb4.group y)) - Kqb4.group y l).map fun (n : Nat) => (n : Int))) ?_ ?_
          · simp only [Kqb4.step, Kqb4.ofPack, e]
            rfl
          · rw [upd_same, htl, ← hts, List.map_map]
            rfl
theorem ok_tell_better (T : Txt K mg A) : FnOk P w K mg base CX0 4 A.f_tell_better A.fd_tell_better ["stock", "p"] (spAct A mkBetter okT) := by
  have G_best_exchange := ok_best_exchange (P := P) (w := w) (base := base) T
  have G_held := ok_held (P := P) (w := w) (base := base) T
  have G_loose_cells := ok_loose_cells (P := P) (w := w) (base := base) T
  refine T.F_tell_better.ok sc_tell_better (fun vs H Q E h => ?_) (fun cdv B outer s H vs Q E hr h => ?_)
  · obtain ⟨st, y, L, ns, c, rfl, hm, _⟩ := h
    obtain ⟨i, rfl, rfl⟩ := mkBetter_is hm
    rfl
  · obtain ⟨st, y, L, ns, c, rfl, hm, _, R, G, _, k⟩ := h
    obtain ⟨n, rfl, rfl⟩ := mkBetter_is hm
    have hu : (B.deeper (envOfC (Str.ofString "tell_better") (defScope s_tell_better) s.heap.objs.size A.f_tell_better cdv)).units + 1 < cLine := by have := hr.units; omega
    refine ⟨_, (pss_cons (ps_if (pt_cmp (pc_dnotin hu (pv 1) (pe_fldK (K := K) rfl (pv 0) rfl)) (by with_unfolding_all rfl)) (pss_one (ps_ret (pe_lst (pa_cons (pe_globI rfl T.m_NO_SUCH) pa_nil)))) pss_nil)
      (pss_cons (ps_set (i := 2) sc_tell_better.nd rfl (by first | exact Or.inl rfl | exact Or.inr rfl) (pe_dget hu (pe_fldK (K := K) rfl (pv 0) rfl) (pv 1) (fun _ _ => rfl)))
      (pss_cons (ps_set (i := 3) sc_tell_better.nd rfl (by first | exact Or.inl rfl | exact Or.inr rfl) (pe_call G_best_exchange (hr.mono (by decide)) rfl T.m_best_exchange T.F_best_exchange.kp T.b_best_exchange .nil pass0 (pa_cons (pe_fldK (K := K) rfl (pv 2) rfl) (pa_cons (pe_fldK (K := K) rfl (pv 2) rfl) (pa_cons (pe_call G_loose_cells (hr.mono (by decide)) rfl T.m_loose_cells T.F_loose_cells.kp T.b_loose_cells .nil pass0 (pa_cons (pv 0) pa_nil)) (pa_cons (pe_call G_held (hr.mono (by decide)) rfl T.m_held T.F_held.kp T.b_held .nil pass0 (pa_cons (pv 0) pa_nil)) pa_nil))))))
      (pss_one (ps_ret (pe_ifExp (pt_cmpR op_isN (pv 3) pe_non (nomark _)) (pe_lst (pa_cons (pe_globI rfl T.m_NO_BETTER) pa_nil)) (pv 3))))))), ?_⟩
    obtain ⟨dx, fs, hst, f⟩ := R.st
    refine ⟨_, rfl, _, rfl, st, _, dx, fs, _, rfl, hst, T.C_Stock, T.n_Stock_packs, f.packs, L.pk, _, rfl, DGet.k (k := Sum.inl (n : Int)) R.pk, _, rfl, ?_⟩
    rw [R.isSome]
    cases e : y.packs.getD n none with
    | none =>
      refine ⟨(by show 1 ≤ sizeLine; decide), fun p hp => ?_⟩
      exact k.read R rfl ((Same.refl _).laid hp) hp (ans := [-2]) (by simp only [Kqb4.step, Kqb4.ofPack, e]; rfl) upd_same
    | some q =>
      obtain ⟨g, g0, g4, hl, hne, hq4, hh, hfl, hin⟩ := G.pack e
      obtain ⟨a, l, hm, hv, ⟨da, fa, ha, pf⟩, hll⟩ := R.val e
      rw [hh] at pf
      have h16 : q.length * g ≤ 4 * 4 := Nat.mul_le_mul hq4 g4
      refine ⟨_, rfl, st, _, dx, fs, _, rfl, hst, T.C_Stock, T.n_Stock_packs, f.packs, _, rfl, L.pk, _, rfl, by rw [← hv]; exact DGet.k (k := Sum.inl (n : Int)) R.pk, ?_⟩
      refine ⟨_, rfl, a, _, da, fa, _, rfl, ha, T.C_Pack, T.n_Pack_cells, pf.cells, _, rfl, a, _, da, fa, _, rfl, ha, T.C_Pack, T.n_Pack_size, pf.size, _, rfl, st, y, L, rfl, R, G.nc, fun H1 c s1 hc1 h1 => ?_⟩
      refine ⟨_, rfl, st, y, L, rfl, R.same s1, G.nc, fun H2 b s2 hb2 h2 => ?_⟩
      have s12 := s1.trans s2
      refine ⟨l, c, b, y, q, g, rfl, SqL.of (s12 _ _ hll), SqL.of (s2 _ _ h1), SqL.of h2, g0, by omega, hl, hne, G.nd n q (getD_some.mp e), by omega, hin, fun H3 v4 v5 s3 e3 => ?_⟩
      have s13 := s12.trans s3
      have hb := best_exchange y q
      rcases top_is (fun (e : Nat × Nat) => Kqb4.strength y (Kqb4.put q e.1 e.2)) (Kqb4.exchanges y q) (Kqb4.strength y q, none) with ⟨t1, t2⟩ | ⟨_, x, _, _, t1, _⟩
      · rw [t1] at hb e3
        obtain ⟨rfl, rfl⟩ := e3
        refine ⟨_, rfl, rfl, _, rfl, (by show 1 ≤ sizeLine; decide), fun p hp => ?_⟩
        have hb : Kqb4.bestExchange y q = none := hb
        exact k.read R rfl (s13.laid hp) (s13.free hp) (ans := [-33]) (by simp only [Kqb4.step, Kqb4.ofPack, e, hb]; rfl) upd_same
      · rw [t1] at hb e3
        obtain ⟨rfl, p, rfl, hp, fp⟩ := e3
        have hb : Kqb4.bestExchange y q = some (x.1, x.2) := hb
        refine ⟨_, rfl, rfl, _, rfl, _, rfl, ?_⟩
        exact k.read R rfl s13 (s12.free fp) (ans := [(Kqb4.strength y (Kqb4.put q x.1 x.2) : Int), (x.1 : Int), (x.2 : Int)]) (by simp only [Kqb4.step, Kqb4.ofPack, e, hb]; rfl) hp
theorem res_at {y : Kqb4.Shop} {i : Nat} {x : Kqb4.Cell} (h : y.cells[i]? = some x) : Kqb4.resists y i = x.resists := by
  unfold Kqb4.resists
  rw [h]
  rfl
theorem okCell_r {h r : Nat} (k : Kqb4.okCell h r = true) : 0 < r ∧ r ≤ 100 := by
  unfold Kqb4.okCell at k
  simp only [Bool.and_eq_true, decide_eq_true_eq] at k
  omega
theorem ok_tell_resists (T : Txt K mg A) : FnOk P w K mg base CX0 6 A.f_tell_resists A.fd_tell_resists ["stock", "p"] (spAct A mkResists okT) := by
  have G_behind_one_another := ok_behind_one_another (P := P) (w := w) (base := base) T
  refine T.F_tell_resists.ok sc_tell_resists (fun vs H Q E h => ?_) (fun cdv B outer s H vs Q E hr h => ?_)
  · obtain ⟨st, y, L, ns, c, rfl, hm, _⟩ := h
    obtain ⟨i, rfl, rfl⟩ := mkResists_is hm
    rfl
  · obtain ⟨st, y, L, ns, c, rfl, hm, _, R, G, _, k⟩ := h
    obtain ⟨n, rfl, rfl⟩ := mkResists_is hm
    have hu : (B.deeper (envOfC (Str.ofString "tell_resists") (defScope s_tell_resists) s.heap.objs.size A.f_tell_resists cdv)).units + 1 < cLine := by have := hr.units; omega
    refine ⟨_, (pss_cons (ps_if (pt_cmp (pc_dnotin hu (pv 1) (pe_fldK (K := K) rfl (pv 0) rfl)) (by with_unfolding_all rfl)) (pss_one (ps_ret (pe_lst (pa_cons (pe_globI rfl T.m_NO_SUCH) pa_nil)))) pss_nil)
      (pss_cons (ps_set (i := 2) sc_tell_resists.nd rfl (by first | exact Or.inl rfl | exact Or.inr rfl) (pe_dget hu (pe_fldK (K := K) rfl (pv 0) rfl) (pv 1) (fun _ _ => rfl)))
      (pss_cons (ps_set (i := 3) sc_tell_resists.nd rfl (by first | exact Or.inl rfl | exact Or.inr rfl) (pe_call G_behind_one_another (hr.mono (by decide)) rfl T.m_behind_one_another T.F_behind_one_another.kp T.b_behind_one_another .nil pass0 (pa_cons (pe_lc rfl sc_tell_resists.nd (own := [("i", 4)]) (pi_listK (K := K) rfl (pe_fldK (K := K) rfl (pv 2) rfl)) (blkOk_by (by show blkC ["stock", "p", "pack", "whole", "i"] (defScope s_tell_resists) _ _ = true; decide +kernel)) (fun _ _ _ _ _ => (pg_name (i := 4) sc_tell_resists.nd rfl (by first | exact Or.inl rfl | exact Or.inr rfl))) (fun _ _ _ _ _ => pts_nil) (fun _ _ _ _ _ => (pe_fldK (K := K) rfl (pe_ix (ix_listK (K := K) rfl) (pe_fldK (K := K) rfl (pv 0) rfl) (pv 4) (fun _ _ => rfl)) rfl))) (pa_cons (pe_fldK (K := K) rfl (pv 2) rfl) pa_nil))))
      (pss_one (ps_ret (pe_lst (pa_cons pe_int (pa_cons (pe_ix (ix_tupK (K := K) rfl) (pv 3) pe_int (fun _ _ => rfl)) (pa_cons (pe_ix (ix_tupK (K := K) rfl) (pv 3) pe_int (fun _ _ => rfl)) pa_nil))))))))), ?_⟩
    obtain ⟨dx, fs, hst, f⟩ := R.st
    refine ⟨_, rfl, _, rfl, st, _, dx, fs, _, rfl, hst, T.C_Stock, T.n_Stock_packs, f.packs, L.pk, _, rfl, DGet.k (k := Sum.inl (n : Int)) R.pk, _, rfl, ?_⟩
    rw [R.isSome]
    cases e : y.packs.getD n none with
    | none =>
      refine ⟨(by show 1 ≤ sizeLine; decide), fun p hp => ?_⟩
      exact k.read R rfl ((Same.refl _).laid hp) hp (ans := [-2]) (by simp only [Kqb4.step, Kqb4.ofPack, e]; rfl) upd_same
    | some q =>
      obtain ⟨g, g0, g4, hl, hne, hq4, hh, hfl, hin⟩ := G.pack e
      obtain ⟨a, l, hm, hv, ⟨da, fa, ha, pf⟩, hll⟩ := R.val e
      rw [hh] at pf
      have h16 : q.length * g ≤ 4 * 4 := Nat.mul_le_mul hq4 g4
      have hr1 : ∀ i ∈ q.flatten, ∃ x, y.cells[i]? = some x ∧ Kqb4.resists y i = x.resists ∧ 0 < Kqb4.resists y i ∧ Kqb4.resists y i ≤ 100 := fun i hi => by
        have hx : y.cells[i]? = some (y.cells[i]'(hin i hi)) := List.getElem?_eq_getElem (hin i hi)
        have ho := okCell_r (G.ok i _ hx)
        exact ⟨_, hx, res_at hx, by rw [res_at hx]; exact ho.1, by rw [res_at hx]; exact ho.2⟩
      refine ⟨_, rfl, st, _, dx, fs, _, rfl, hst, T.C_Stock, T.n_Stock_packs, f.packs, _, rfl, L.pk, _, rfl, by rw [← hv]; exact DGet.k (k := Sum.inl (n : Int)) R.pk, ?_⟩
      refine ⟨_, rfl, a, _, da, fa, _, rfl, ha, T.C_Pack, T.n_Pack_cells, pf.cells, l, rfl, ⟨_, SqL.of hll⟩, fun D hD => ?_⟩
      refine lc_list (xs := nvs q.flatten) (fun j H2 => Same H H2 ∧ H2 D = some (.lst (nvs ((q.flatten.map (Kqb4.resists y)).take j)))) ⟨(Same.refl _).laid hD, upd_same⟩ (fun j H2 _ z => SqL.of (z.1 _ _ hll)) ?_ ?_
      · rintro j v H2 hv ⟨s2, h2⟩
        obtain ⟨i, hi, rfl⟩ := nvs_get hv
        obtain ⟨x, hx, hrx, _⟩ := hr1 i (List.mem_of_getElem? hi)
        obtain ⟨ca, hca, dc, fc, hc, cf⟩ := R.cell hx
        refine ⟨rfl, _, rfl, st, _, dx, fs, _, rfl, s2 _ _ hst, T.C_Stock, T.n_Stock_cells, f.cells, _, rfl, L.cl, _, _, _, rfl, rfl, SqL.of (s2 _ _ R.cl), at_of (j := i) rfl (refs_at hca), ca, _, dc, fc, _, rfl, s2 _ _ hc, T.C_Cell, T.n_Cell_resists, cf.resists, _, h2, ?_, s2.put hD, ?_⟩
        · rw [nvs_len, List.length_take, List.length_map, hfl, sizeLine_eq]
          omega
        · rw [upd_same, take_snoc (x := x.resists) (by rw [List.getElem?_map, hi, ← hrx]; rfl), nvs_app]
          rfl
      · rintro H2 ⟨s2, h2⟩
        rw [nvs_len, List.take_of_length_le (by rw [List.length_map]; exact Nat.le_refl _)] at h2
        have ef : q.flatten.map (Kqb4.resists y) = (q.map fun l => l.map (Kqb4.resists y)).flatten := by rw [List.map_flatten]
        have ec : cuts g (q.flatten.map (Kqb4.resists y)) = q.map fun l => l.map (Kqb4.resists y) := by
          rw [ef]
          refine cuts_flat g0 fun x hx => ?_
          obtain ⟨z, hz, rfl⟩ := List.mem_map.mp hx
          rw [List.length_map]
          exact hl z hz
        refine ⟨_, rfl, a, _, da, fa, _, rfl, s2 _ _ ha, T.C_Pack, T.n_Pack_size, pf.size, D, q.flatten.map (Kqb4.resists y), g, rfl, SqL.of h2, g0, g4, by rw [List.length_map]; omega, by rw [ec, List.length_map]; exact hq4, fun r hr => ?_, fun H3 t s3 ht h3 => ?_⟩
        · obtain ⟨i, hi, rfl⟩ := List.mem_map.mp hr
          obtain ⟨x, _, _, b1, b2⟩ := hr1 i hi
          exact ⟨b1, b2⟩
        · rw [ec, ← pack_turn (fun l hl' => fun z => by have := hl l hl'; rw [z] at this; simp at this; omega) fun i hi => by
            obtain ⟨x, _, _, b1, _⟩ := hr1 i hi
            exact b1] at h3
          have s23 := s2.trans s3
          refine ⟨_, rfl, t, _, _, _, rfl, rfl, SqT.of h3, at_of (j := 0) rfl rfl, _, rfl, t, _, _, _, rfl, rfl, SqT.of h3, at_of (j := 1) rfl rfl, (by show 3 ≤ sizeLine; decide), fun p hp => ?_⟩
          exact k.read R rfl (s23.laid hp) (s23.free hp) (ans := [0, ((Kqb4.packResists y q).num : Int), ((Kqb4.packResists y q).den : Int)]) (by simp only [Kqb4.step, Kqb4.ofPack, e]; rfl) upd_same
theorem ok_tell_near (T : Txt K mg A) : FnOk P w K mg base CX0 3 A.f_tell_near A.fd_tell_near ["stock"] (spAct A mkNear okT) := by
  have G_held := ok_held (P := P) (w := w) (base := base) T
  have G_loose_cells := ok_loose_cells (P := P) (w := w) (base := base) T
  have G_nearest_two := ok_nearest_two (P := P) (w := w) (base := base) T
  refine T.F_tell_near.ok sc_tell_near (fun vs H Q E h => ?_) (fun cdv B outer s H vs Q E hr h => ?_)
  · obtain ⟨st, y, L, ns, c, rfl, hm, _⟩ := h
    obtain ⟨rfl, rfl⟩ := mkNear_is hm
    rfl
  · obtain ⟨st, y, L, ns, c, rfl, hm, _, R, G, _, k⟩ := h
    obtain ⟨rfl, rfl⟩ := mkNear_is hm
    refine ⟨_, (pss_cons (ps_set (i := 1) sc_tell_near.nd rfl (by first | exact Or.inl rfl | exact Or.inr rfl) (pe_call G_loose_cells (hr.mono (by decide)) rfl T.m_loose_cells T.F_loose_cells.kp T.b_loose_cells .nil pass0 (pa_cons (pv 0) pa_nil)))
      (pss_cons (ps_if (pt_cmpR op_lt (pe_callB (len_seqK (K := K) rfl) (by rfl) T.b_len boot_len (pa_cons (pv 1) pa_nil)) pe_int (nomark _)) (pss_one (ps_ret (pe_lst (pa_cons (pe_globI rfl T.m_TOO_FEW) pa_nil)))) pss_nil)
      (pss_one (ps_ret (pe_call G_nearest_two (hr.mono (by decide)) rfl T.m_nearest_two T.F_nearest_two.kp T.b_nearest_two .nil pass0 (pa_cons (pv 1) (pa_cons (pe_call G_held (hr.mono (by decide)) rfl T.m_held T.F_held.kp T.b_held .nil pass0 (pa_cons (pv 0) pa_nil)) pa_nil))))))), ?_⟩
    refine ⟨_, rfl, st, y, L, rfl, R, G.nc, fun H1 c s1 hc1 h1 => ?_⟩
    refine ⟨_, rfl, c, _, rfl, .inl (SqL.of h1), _, _, rfl, rfl, _, rfl, ?_⟩
    rw [nvs_len]
    refine ite2 (fun h => ?_) (fun h => ?_)
    · have h : ((Kqb4.loose y).length : Int) < 2 := of_decide_eq_true h
      have hn := near_none (y := y) (by omega)
      refine ⟨(by show 1 ≤ sizeLine; decide), fun p hp => ?_⟩
      exact k.read R rfl (s1.laid hp) (s1.free hp) (ans := [-12]) (by simp only [Kqb4.step, hn]; rfl) upd_same
    · have h : ¬ ((Kqb4.loose y).length : Int) < 2 := fun z => h (decide_eq_true z)
      obtain ⟨v, hv⟩ := near_some (y := y) (by omega)
      refine ⟨_, rfl, _, rfl, st, y, L, rfl, R.same s1, G.nc, fun H2 b s2 hb2 h2 => ?_⟩
      refine ⟨c, b, y, rfl, SqL.of (s2 _ _ h1), SqL.of h2, G.nc, fun H3 u s3 e3 => ?_⟩
      rw [hv] at e3
      obtain ⟨p, rfl, hp, fp⟩ := e3
      have s13 := s1.trans (s2.trans s3)
      have hv : Kqb4.near y = some (v.1, v.2) := hv
      exact k.read R rfl s13 ((s1.trans s2).free fp) (ans := [((max (Kqb4.holds y v.1) (Kqb4.holds y v.2) - min (Kqb4.holds y v.1) (Kqb4.holds y v.2) : Nat) : Int), (v.1 : Int), (v.2 : Int)]) (by simp only [Kqb4.step, hv]; rfl) hp
theorem loose_len {y : Kqb4.Shop} : (Kqb4.loose y).length ≤ y.cells.length := Nat.le_trans (List.length_filter_le _ _) (by simp)
theorem ok_tell_loose (T : Txt K mg A) : FnOk P w K mg base CX0 3 A.f_tell_loose A.fd_tell_loose ["stock"] (spAct A mkLoose okT) := by
  have G_loose_cells := ok_loose_cells (P := P) (w := w) (base := base) T
  refine T.F_tell_loose.ok sc_tell_loose (fun vs H Q E h => ?_) (fun cdv B outer s H vs Q E hr h => ?_)
  · obtain ⟨st, y, L, ns, c, rfl, hm, _⟩ := h
    obtain ⟨rfl, rfl⟩ := mkLoose_is hm
    rfl
  · obtain ⟨st, y, L, ns, c, rfl, hm, _, R, G, _, k⟩ := h
    obtain ⟨rfl, rfl⟩ := mkLoose_is hm
    have nc := G.nc
    refine ⟨_, (pss_cons (ps_set (i := 1) sc_tell_loose.nd rfl (by first | exact Or.inl rfl | exact Or.inr rfl) (pe_call G_loose_cells (hr.mono (by decide)) rfl T.m_loose_cells T.F_loose_cells.kp T.b_loose_cells .nil pass0 (pa_cons (pv 0) pa_nil)))
      (pss_one (ps_ret (pe_op op_cat (pe_lst (pa_cons (pe_callB (len_seqK (K := K) rfl) (by rfl) T.b_len boot_len (pa_cons (pv 1) pa_nil)) pa_nil)) (pv 1))))), ?_⟩
    refine ⟨_, rfl, st, y, L, rfl, R, nc, fun H1 c s1 hc1 h1 => ?_⟩
    refine ⟨_, rfl, c, _, rfl, .inl (SqL.of h1), (by show 1 ≤ sizeLine; decide), fun u hu => ?_⟩
    have s2 : ∀ o, Same H1 (upd H1 u o) := fun o => (Same.refl _).laid hu
    refine ⟨_, rfl, u, c, _, _, rfl, rfl, upd_same, s2 _ _ _ h1, ?_, fun p hp => ?_⟩
    · rw [nvs_len, sizeLine_eq]
      have := loose_len (y := y)
      show 1 + _ ≤ _
      omega
    · refine k.read R rfl ((s1.trans (s2 _)).laid hp) ((s1.trans (s2 _)).free hp) (ans := ((Kqb4.loose y).length : Int) :: ((Kqb4.loose y).map fun (n : Nat) => (n : Int))) rfl ?_
      rw [upd_same, nvs_len]
      rfl
theorem ok_retire_pack (T : Txt K mg A) : FnOk P w K mg base CX0 2 A.f_retire_pack A.fd_retire_pack ["stock", "p"] (spAct A mkRetire okT) := by
  have G_remove_pack := ok_remove_pack (P := P) (w := w) (base := base) T
  refine T.F_retire_pack.ok sc_retire_pack (fun vs H Q E h => ?_) (fun cdv B outer s H vs Q E hr h => ?_)
  · obtain ⟨st, y, L, ns, c, rfl, hm, _⟩ := h
    obtain ⟨i, rfl, rfl⟩ := mkRetire_is hm
    rfl
  · obtain ⟨st, y, L, ns, c, rfl, hm, _, R, G, _, k⟩ := h
    obtain ⟨n, rfl, rfl⟩ := mkRetire_is hm
    have hu : (B.deeper (envOfC (Str.ofString "retire_pack") (defScope s_retire_pack) s.heap.objs.size A.f_retire_pack cdv)).units + 1 < cLine := by have := hr.units; omega
    refine ⟨_, (pss_cons (ps_if (pt_cmp (pc_dnotin hu (pv 1) (pe_fldK (K := K) rfl (pv 0) rfl)) (by with_unfolding_all rfl)) (pss_one (ps_ret (pe_lst (pa_cons (pe_globI rfl T.m_NO_SUCH) pa_nil)))) pss_nil)
      (pss_one (ps_ret (pe_lst (pa_cons (pe_call G_remove_pack (hr.mono (by decide)) rfl T.m_remove_pack T.F_remove_pack.kp T.b_remove_pack .nil pass0 (pa_cons (pv 0) (pa_cons (pv 1) pa_nil))) pa_nil))))), ?_⟩
    obtain ⟨dx, fs, hst, f⟩ := R.st
    refine ⟨_, rfl, _, rfl, st, _, dx, fs, _, rfl, hst, T.C_Stock, T.n_Stock_packs, f.packs, L.pk, _, rfl, DGet.k (k := Sum.inl (n : Int)) R.pk, _, rfl, ?_⟩
    rw [R.isSome]
    cases e : y.packs.getD n none with
    | none =>
      refine ⟨(by show 1 ≤ sizeLine; decide), fun p hp => ?_⟩
      exact k.read R (by simp only [Kqb4.step, e]) ((Same.refl _).laid hp) hp (ans := [-2]) (by simp only [Kqb4.step, e]; rfl) upd_same
    | some q =>
      refine ⟨_, rfl, _, rfl, st, y, L, n, q, rfl, R, G, e, fun H3 L3 R3 kp3 ft3 dm3 eb3 => ?_⟩
      refine ⟨(by show 1 ≤ sizeLine; decide), fun p hp => ?_⟩
      have s4 : ∀ o, Same H3 (upd H3 p o) := fun o => (Same.refl _).laid hp
      have hpH : H p = none := by
        cases e : H p with
        | none => rfl
        | some o =>
          obtain ⟨o', ho'⟩ := dm3 p o e
          rw [hp] at ho'
          cases ho'
      refine k _ L3 p _ (by simp only [Kqb4.step, e]) (R3.same (s4 _)) (fun b o eb hb => s4 _ _ _ (kp3 b o eb hb)) (fun b h => .inl (ft3 b h)) eb3 hpH ?_
      rw [upd_same]
      simp only [Kqb4.step, e]
      rfl
theorem isLoose_is {y : Kqb4.Shop} {j : Nat} {z : Kqb4.Cell} (h : y.cells[j]? = some z) : Kqb4.isLoose y j = isL z := by
  unfold Kqb4.isLoose
  rw [h]
  rfl
theorem ok_exchange (T : Txt K mg A) : FnOk P w K mg base CX0 2 A.f_exchange A.fd_exchange ["stock", "i", "j"] (spAct A mkExchange okT) := by
  have G_exchange_cells := ok_exchange_cells (P := P) (w := w) (base := base) T
  have G_has_cell := ok_has_cell (P := P) (w := w) (base := base) T
  have G_is_loose := ok_is_loose (P := P) (w := w) (base := base) T
  refine T.F_exchange.ok sc_exchange (fun vs H Q E h => ?_) (fun cdv B outer s H vs Q E hr h => ?_)
  · obtain ⟨st, y, L, ns, c, rfl, hm, _⟩ := h
    obtain ⟨i, j, rfl, rfl⟩ := mkExchange_is hm
    rfl
  · obtain ⟨st, y, L, ns, c, rfl, hm, _, R, G, _, k⟩ := h
    obtain ⟨i, j, rfl, rfl⟩ := mkExchange_is hm
    refine ⟨_, (pss_cons (ps_if (PW.pt (pw_or (pt_not (pt_truthK (K := K) rfl (pe_call G_has_cell (hr.mono (by decide)) rfl T.m_has_cell T.F_has_cell.kp T.b_has_cell .nil pass0 (pa_cons (pv 0) (pa_cons (pv 1) pa_nil))) (fun _ => rfl))) (pw_or1 (pt_not (pt_truthK (K := K) rfl (pe_call G_has_cell (hr.mono (by decide)) rfl T.m_has_cell T.F_has_cell.kp T.b_has_cell .nil pass0 (pa_cons (pv 0) (pa_cons (pv 2) pa_nil))) (fun _ => rfl)))))) (pss_one (ps_ret (pe_lst (pa_cons (pe_globI rfl T.m_NO_SUCH) pa_nil)))) pss_nil)
      (pss_cons (ps_if (pt_cmpR op_isN (pe_fldK (K := K) rfl (pe_ix (ix_listK (K := K) rfl) (pe_fldK (K := K) rfl (pv 0) rfl) (pv 1) (fun _ _ => rfl)) rfl) pe_non (nomark _)) (pss_one (ps_ret (pe_lst (pa_cons (pe_globI rfl T.m_NOT_PACKED) pa_nil)))) pss_nil)
      (pss_cons (ps_if (pt_not (pt_truthK (K := K) rfl (pe_call G_is_loose (hr.mono (by decide)) rfl T.m_is_loose T.F_is_loose.kp T.b_is_loose .nil pass0 (pa_cons (pe_ix (ix_listK (K := K) rfl) (pe_fldK (K := K) rfl (pv 0) rfl) (pv 2) (fun _ _ => rfl)) pa_nil)) (fun _ => rfl))) (pss_one (ps_ret (pe_lst (pa_cons (pe_globI rfl T.m_NOT_LOOSE) pa_nil)))) pss_nil)
      (pss_one (ps_ret (pe_lst (pa_cons (pe_call G_exchange_cells (hr.mono (by decide)) rfl T.m_exchange_cells T.F_exchange_cells.kp T.b_exchange_cells .nil pass0 (pa_cons (pv 0) (pa_cons (pv 1) (pa_cons (pv 2) pa_nil)))) pa_nil))))))), ?_⟩
    obtain ⟨dx, fs, hst, f⟩ := R.st
    refine ⟨_, rfl, _, rfl, st, y, L, i, rfl, R, _, rfl, ?_⟩
    cases e : y.cells[i]? with
    | none =>
      have hi : ¬ i < y.cells.length := fun h => by rw [List.getElem?_eq_getElem h] at e; cases e
      rw [decide_eq_false hi]
      refine ⟨(by show 1 ≤ sizeLine; decide), fun p hp => ?_⟩
      exact k.read R (by simp only [Kqb4.step, e]) ((Same.refl _).laid hp) hp (ans := [-2]) (by simp only [Kqb4.step, e]; rfl) upd_same
    | some x =>
      have hi : i < y.cells.length := (List.getElem?_eq_some_iff.mp e).1
      rw [decide_eq_true hi]
      refine ⟨_, rfl, _, rfl, st, y, L, j, rfl, R, _, rfl, ?_⟩
      cases ej : y.cells[j]? with
      | none =>
        have hj : ¬ j < y.cells.length := fun h => by rw [List.getElem?_eq_getElem h] at ej; cases ej
        rw [decide_eq_false hj]
        refine ⟨(by show 1 ≤ sizeLine; decide), fun p hp => ?_⟩
        exact k.read R (by simp only [Kqb4.step, e, ej]) ((Same.refl _).laid hp) hp (ans := [-2]) (by simp only [Kqb4.step, e, ej]; rfl) upd_same
      | some z =>
        have hj : j < y.cells.length := (List.getElem?_eq_some_iff.mp ej).1
        rw [decide_eq_true hj]
        obtain ⟨ai, hai, di, fi, hci, cfi⟩ := R.cell e
        obtain ⟨aj, haj, cj⟩ := R.cell ej
        refine ⟨_, rfl, st, _, dx, fs, _, rfl, hst, T.C_Stock, T.n_Stock_cells, f.cells, _, rfl, L.cl, _, _, _, rfl, rfl, SqL.of R.cl, at_of (j := i) rfl (refs_at hai), ai, _, di, fi, _, rfl, hci, T.C_Cell, T.n_Cell_pack, cfi.pack, rfl, _, rfl, ?_⟩
        cases ep : x.pack with
        | zero =>
          refine ⟨(by show 1 ≤ sizeLine; decide), fun p hp => ?_⟩
          exact k.read R (by simp only [Kqb4.step, e, ej, ep, if_true]) ((Same.refl _).laid hp) hp (ans := [-6]) (by simp only [Kqb4.step, e, ej, ep, if_true]; rfl) upd_same
        | succ n =>
          have h0 : ¬ x.pack = 0 := by omega
          have h0' : ¬ n + 1 = 0 := by omega
          refine ⟨_, rfl, st, _, dx, fs, _, rfl, hst, T.C_Stock, T.n_Stock_cells, f.cells, _, rfl, L.cl, _, _, _, rfl, rfl, SqL.of R.cl, at_of (j := j) rfl (refs_at haj), aj, z, rfl, cj, _, rfl, ?_⟩
          have hil := isLoose_is ej
          cases hl : isL z with
          | false =>
            rw [hl] at hil
            refine ⟨(by show 1 ≤ sizeLine; decide), fun p hp => ?_⟩
            exact k.read R (by simp only [Kqb4.step, e, ej, if_neg h0, hil, if_true]) ((Same.refl _).laid hp) hp (ans := [-16]) (by simp only [Kqb4.step, e, ej, if_neg h0, hil, if_true]; rfl) upd_same
          | true =>
            rw [hl] at hil
            have hf : ¬ (true = false) := by decide
            have z0 : z.pack = 0 := Classical.byContradiction fun h => isL_iff.mp hl (.inl h)
            refine ⟨_, rfl, _, rfl, _, rfl, st, y, L, i, j, x, z, rfl, R, G, e, ej, h0, z0, fun H3 R3 kp3 dm3 => ?_⟩
            refine ⟨(by show 1 ≤ sizeLine; decide), fun p hp => ?_⟩
            have s4 : ∀ o, Same H3 (upd H3 p o) := fun o => (Same.refl _).laid hp
            have hpH : H p = none := by
              cases e : H p with
              | none => rfl
              | some o =>
                obtain ⟨o', ho'⟩ := dm3 p o e
                rw [hp] at ho'
                cases ho'
            refine k _ L p _ (by simp only [Kqb4.step, e, ej, if_neg h0, hil, if_neg hf]) (R3.same (s4 _)) (fun b o eb hb => s4 _ _ _ (kp3 b o eb hb)) (fun b h => .inl h) rfl hpH ?_
            rw [upd_same]
            simp only [Kqb4.step, e, ej, if_neg h0, hil, if_neg hf]
            rfl
theorem ok_look_at_cell (T : Txt K mg A) : FnOk P w K mg base CX0 2 A.f_look_at_cell A.fd_look_at_cell ["stock", "i"] (spAct A mkLook okT) := by
  have G_has_cell := ok_has_cell (P := P) (w := w) (base := base) T
  refine T.F_look_at_cell.ok sc_look_at_cell (fun vs H Q E h => ?_) (fun cdv B outer s H vs Q E hr h => ?_)
  · obtain ⟨st, y, L, ns, c, rfl, hm, _⟩ := h
    obtain ⟨i, rfl, rfl⟩ := mkLook_is hm
    rfl
  · obtain ⟨st, y, L, ns, c, rfl, hm, _, R, G, _, k⟩ := h
    obtain ⟨i, rfl, rfl⟩ := mkLook_is hm
    refine ⟨_, (pss_cons (ps_if (pt_not (pt_truthK (K := K) rfl (pe_call G_has_cell (hr.mono (by decide)) rfl T.m_has_cell T.F_has_cell.kp T.b_has_cell .nil pass0 (pa_cons (pv 0) (pa_cons (pv 1) pa_nil))) (fun _ => rfl))) (pss_one (ps_ret (pe_lst (pa_cons (pe_globI rfl T.m_NO_SUCH) pa_nil)))) pss_nil)
      (pss_cons (ps_set (i := 2) sc_look_at_cell.nd rfl (by first | exact Or.inl rfl | exact Or.inr rfl) (pe_ix (ix_listK (K := K) rfl) (pe_fldK (K := K) rfl (pv 0) rfl) (pv 1) (fun _ _ => rfl)))
      (pss_cons (ps_set (i := 3) sc_look_at_cell.nd rfl (by first | exact Or.inl rfl | exact Or.inr rfl) (pe_ifExp (pt_cmpR op_isN (pe_fldK (K := K) rfl (pv 2) rfl) pe_non (nomark _)) pe_int (pe_op op_add (pe_fldK (K := K) rfl (pv 2) rfl) pe_int)))
      (pss_one (ps_ret (pe_lst (pa_cons (pe_fldK (K := K) rfl (pv 2) rfl) (pa_cons (pe_fldK (K := K) rfl (pv 2) rfl) (pa_cons (pv 3) (pa_cons (pe_ifExp (pt_truthK (K := K) rfl (pe_fldK (K := K) rfl (pv 2) rfl) (fun _ => rfl)) pe_int pe_int) pa_nil)))))))))), ?_⟩
    obtain ⟨dx, fs, hst, f⟩ := R.st
    refine ⟨_, rfl, _, rfl, st, y, L, i, rfl, R, _, rfl, ?_⟩
    cases e : y.cells[i]? with
    | none =>
      have hi : ¬ i < y.cells.length := fun h => by rw [List.getElem?_eq_getElem h] at e; cases e
      rw [decide_eq_false hi]
      refine ⟨(by show 1 ≤ sizeLine; decide), fun p hp => ?_⟩
      exact k.read R rfl ((Same.refl _).laid hp) hp (ans := [-2]) (by simp only [Kqb4.step, e]; rfl) upd_same
    | some x =>
      have hi : i < y.cells.length := (List.getElem?_eq_some_iff.mp e).1
      rw [decide_eq_true hi]
      obtain ⟨a, ha, dc, fc, hc, cf⟩ := R.cell e
      refine ⟨_, rfl, st, _, dx, fs, _, rfl, hst, T.C_Stock, T.n_Stock_cells, f.cells, _, rfl, L.cl, _, _, _, rfl, rfl, SqL.of R.cl, at_of (j := i) rfl (refs_at ha), ?_⟩
      have fin : ∀ m : Nat, m = x.pack → ∀ b : Int, b = (if x.scrap then (1 : Nat) else 0 : Nat) → ∀ p, H p = none → Q (.ref p) (upd H p (.lst [nv x.holds, nv x.resists, nv m, .int b])) := fun m em b eb p hp => by
        subst em eb
        refine k.read R rfl ((Same.refl _).laid hp) hp (ans := [(x.holds : Int), (x.resists : Int), (x.pack : Int), ((if x.scrap then (1 : Nat) else 0 : Nat) : Int)]) ?_ upd_same
        simp only [Kqb4.step, e]
        rfl
      have go : ∀ m : Nat, m = x.pack → ∃ v1, some (V.ref a) = some v1 ∧ True := fun m _ => ⟨_, rfl, trivial⟩
      refine ⟨_, rfl, a, _, dc, fc, _, rfl, hc, T.C_Cell, T.n_Cell_pack, cf.pack, rfl, _, rfl, ?_⟩
      cases ep : x.pack with
      | zero =>
        refine ⟨_, rfl, a, _, dc, fc, _, rfl, hc, T.C_Cell, T.n_Cell_holds, cf.holds, _, rfl, a, _, dc, fc, _, rfl, hc, T.C_Cell, T.n_Cell_resists, cf.resists, _, rfl, _, rfl, a, _, dc, fc, _, rfl, hc, T.C_Cell, T.n_Cell_scrap, cf.scrap, _, rfl, ?_⟩
        cases es : x.scrap with
        | true => exact ⟨(by show 4 ≤ sizeLine; decide), fun p hp => fin 0 ep.symm 1 (by rw [es]; rfl) p hp⟩
        | false => exact ⟨(by show 4 ≤ sizeLine; decide), fun p hp => fin 0 ep.symm 0 (by rw [es]; rfl) p hp⟩
      | succ n =>
        refine ⟨_, rfl, a, _, dc, fc, _, rfl, hc, T.C_Cell, T.n_Cell_pack, cf.pack.trans (by rw [ep]; rfl), _, _, rfl, rfl, ?_⟩
        refine ⟨_, rfl, a, _, dc, fc, _, rfl, hc, T.C_Cell, T.n_Cell_holds, cf.holds, _, rfl, a, _, dc, fc, _, rfl, hc, T.C_Cell, T.n_Cell_resists, cf.resists, _, rfl, _, rfl, a, _, dc, fc, _, rfl, hc, T.C_Cell, T.n_Cell_scrap, cf.scrap, _, rfl, ?_⟩
        cases es : x.scrap with
        | true => exact ⟨(by show 4 ≤ sizeLine; decide), fun p hp => fin (n + 1) ep.symm 1 (by rw [es]; rfl) p hp⟩
        | false => exact ⟨(by show 4 ≤ sizeLine; decide), fun p hp => fin (n + 1) ep.symm 0 (by rw [es]; rfl) p hp⟩
theorem ok_tell_state (T : Txt K mg A) : FnOk P w K mg base CX0 3 A.f_tell_state A.fd_tell_state ["stock"] (spAct A mkState okT) := by
  have G_loose_cells := ok_loose_cells (P := P) (w := w) (base := base) T
  refine T.F_tell_state.ok sc_tell_state (fun vs H Q E h => ?_) (fun cdv B outer s H vs Q E hr h => ?_)
  · obtain ⟨st, y, L, ns, c, rfl, hm, _⟩ := h
    obtain ⟨rfl, rfl⟩ := mkState_is hm
    rfl
  · obtain ⟨st, y, L, ns, c, rfl, hm, _, R, G, _, k⟩ := h
    obtain ⟨rfl, rfl⟩ := mkState_is hm
    have nc := G.nc
    refine ⟨_, (pss_cons (ps_setLc (i := 1) rfl sc_tell_state.nd rfl rfl (sw_true rfl rfl rfl rfl) (own := [("cell", 2)]) (pi_listK (K := K) rfl (pe_fldK (K := K) rfl (pv 0) rfl)) (blkOk_by (by show blkC ["stock", "scrapped", "cell"] (defScope s_tell_state) _ _ = true; decide +kernel)) (fun _ _ _ _ _ => (pg_name (i := 2) sc_tell_state.nd rfl (by first | exact Or.inl rfl | exact Or.inr rfl))) (fun _ _ _ _ _ => (pts_one (pt_truthK (K := K) rfl (pe_fldK (K := K) rfl (pv 2) rfl) (fun _ => rfl)))) (fun _ _ _ _ _ => (pv 2)))
      (pss_one (ps_ret (pe_lst (pa_cons (pe_callB (len_seqK (K := K) rfl) (by rfl) T.b_len boot_len (pa_cons (pe_fldK (K := K) rfl (pv 0) rfl) pa_nil)) (pa_cons (pe_callB (len_seqK (K := K) rfl) (by rfl) T.b_len boot_len (pa_cons (pe_call G_loose_cells (hr.mono (by decide)) rfl T.m_loose_cells T.F_loose_cells.kp T.b_loose_cells .nil pass0 (pa_cons (pv 0) pa_nil)) pa_nil)) (pa_cons (pe_callB call_lenD (by rfl) T.b_len boot_len (pa_cons (pe_fldK (K := K) rfl (pv 0) rfl) pa_nil)) (pa_cons (pe_callB (len_seqK (K := K) rfl) (by rfl) T.b_len boot_len (pa_cons (pv 1) pa_nil)) pa_nil)))))))), ?_⟩
    obtain ⟨dx, fs, hst, f⟩ := R.st
    refine ⟨_, rfl, st, _, dx, fs, _, rfl, hst, T.C_Stock, T.n_Stock_cells, f.cells, L.cl, rfl, ⟨_, SqL.of R.cl⟩, fun D hD => ?_⟩
    refine lc_list (xs := L.as.map V.ref) (fun j H2 => Same H H2 ∧ ∃ bs : List Addr, H2 D = some (.lst (bs.map V.ref)) ∧ bs.length = ((y.cells.take j).filter fun x => x.scrap).length) ⟨(Same.refl _).laid hD, [], upd_same, rfl⟩ (fun j H2 _ q => SqL.of (q.1 _ _ R.cl)) ?_ ?_
    · rintro j x H2 hx ⟨s2, bs, h2, hb⟩
      obtain ⟨a, ha, rfl⟩ := refs_get hx
      obtain ⟨x, hx', dc, fc, hc, c⟩ := paired_get R.cells ha
      refine ⟨rfl, _, rfl, a, _, dc, fc, _, rfl, s2 _ _ hc, T.C_Cell, T.n_Cell_scrap, c.scrap, _, rfl, ?_⟩
      rw [take_snoc hx', List.filter_append]
      cases es : x.scrap with
      | true =>
        refine ⟨_, rfl, _, h2, ?_, s2.put hD, bs ++ [a], ?_, ?_⟩
        · rw [List.length_map, hb, sizeLine_eq]
          have : ((y.cells.take j).filter fun x => x.scrap).length ≤ y.cells.length := Nat.le_trans (List.length_filter_le _ _) (by rw [List.length_take]; omega)
          omega
        · rw [upd_same, List.map_append]; rfl
        · rw [List.length_append, List.length_append, hb, List.filter_cons_of_pos (by exact es)]
          rfl
      | false =>
        refine ⟨s2, bs, h2, ?_⟩
        rw [List.filter_cons_of_neg (by rw [es]; decide), List.filter_nil, List.append_nil]
        exact hb
    · rintro H2 ⟨s2, bs, h2, hb⟩
      rw [List.length_map, R.len, List.take_of_length_le (Nat.le_refl _)] at hb
      have R2 := R.same s2
      refine ⟨_, rfl, st, _, dx, fs, _, rfl, s2 _ _ hst, T.C_Stock, T.n_Stock_cells, f.cells, L.cl, _, rfl, .inl (SqL.of R2.cl), _, rfl, st, y, L, rfl, R2, nc, fun H3 c s3 hc3 h3 => ?_⟩
      have R3 := R2.same s3
      have s23 := s2.trans s3
      refine ⟨c, _, rfl, .inl (SqL.of h3), _, rfl, st, _, dx, fs, _, rfl, s23 _ _ hst, T.C_Stock, T.n_Stock_packs, f.packs, L.pk, _, rfl, R3.pk, _, rfl, D, _, rfl, .inl (SqL.of (s3 _ _ h2)), (by show 4 ≤ sizeLine; decide), fun p hp => ?_⟩
      have ek : L.ps.length = (y.packs.filterMap id).length := by
        rw [← List.length_map (f := (·.1)) (as := L.ps)]
        refine count_keys R.knd (fun n hn => ?_) fun n q hq => ?_
        · obtain ⟨p, hp, rfl⟩ := List.mem_map.mp hn
          obtain ⟨q, hq, _⟩ := R.packs p hp
          exact ⟨q, hq⟩
        · obtain ⟨a, l, hm⟩ := R.all n q hq
          exact List.mem_map.mpr ⟨_, hm, rfl⟩
      refine k.read R rfl (s23.laid hp) (s23.free hp) (ans := [(y.cells.length : Int), ((Kqb4.loose y).length : Int), ((y.packs.filterMap id).length : Int), ((y.cells.filter fun x => x.scrap).length : Int)]) rfl ?_
      rw [upd_same, nvs_len, List.length_map, List.length_map, List.length_map, R.len, hb, ek]
      rfl
end
end CP
end

section
set_option Elab.async false
set_option linter.all false
set_option maxRecDepth 100000
set_option maxHeartbeats 1000000
namespace CP
open PySem PySem.Spec PyProof.Rows L2
section
variable {P : Program} {w : World} {K : PySem.W.Frag} {mg : Str → Option Value} {base : Heap} {A : Ad}
def ivs (l : List Int) : List V := l.map V.int
def TupA (H0 : Hp) (fo : Addr) (H : Hp) (b : Addr) (c : List (List Int)) : Prop := ∃ l, H b = some (.tup [.int (numOf c), .ref l]) ∧ l ≠ fo ∧ H0 l = none ∧ H l = some (.lst (ivs (argOf c)))
theorem TupA.keep {H0 : Hp} {fo : Addr} {H H' : Hp} {b : Addr} {c : List (List Int)} (h : TupA H0 fo H b c) (k : ∀ a o, H a = some o → a ≠ fo → H' a = some o) (hf : ∃ xs, H fo = some (.lst xs)) : TupA H0 fo H' b c := by
  obtain ⟨l, h1, h2, h4, h3⟩ := h
  obtain ⟨xs, hf⟩ := hf
  exact ⟨l, k _ _ h1 (fun e => by rw [e, hf] at h1; cases h1), h2, h4, k _ _ h3 h2⟩
def HK : List (Key × V) := [(Sum.inl 1, .int 2), (Sum.inl 2, .int 3), (Sum.inl 3, .int 1), (Sum.inl 4, .int 1), (Sum.inl 5, .int 0), (Sum.inl 6, .int 2), (Sum.inl 7, .int 2), (Sum.inl 8, .int 3), (Sum.inl 9, .int 1), (Sum.inl 10, .int 1), (Sum.inl 11, .int 1), (Sum.inl 12, .int 1), (Sum.inl 13, .int 1), (Sum.inl 14, .int 2), (Sum.inl 15, .int 1), (Sum.inl 16, .int 0), (Sum.inl 17, .int 0), (Sum.inl 18, .int 1), (Sum.inl 19, .int 1), (Sum.inl 20, .int 0)]
theorem handed_val {p : Int} {k : Nat} (h0 : p ≠ 0) (h : handedOf p = some k) : valV HK (Sum.inl p) = some (nv k) := by
  unfold handedOf PyKqb4.shape at h
  rw [if_neg h0] at h
  by_cases h1 : p = 1
  · subst h1; cases h; rfl
  rw [if_neg h1] at h
  by_cases h1 : p = 2
  · subst h1; cases h; rfl
  rw [if_neg h1] at h
  by_cases h1 : p = 3
  · subst h1; cases h; rfl
  rw [if_neg h1] at h
  by_cases h1 : p = 4
  · subst h1; cases h; rfl
  rw [if_neg h1] at h
  by_cases h1 : p = 5
  · subst h1; cases h; rfl
  rw [if_neg h1] at h
  by_cases h1 : p = 6
  · subst h1; cases h; rfl
  rw [if_neg h1] at h
  by_cases h1 : p = 7
  · subst h1; cases h; rfl
  rw [if_neg h1] at h
  by_cases h1 : p = 8
  · subst h1; cases h; rfl
  rw [if_neg h1] at h
  by_cases h1 : p = 9
  · subst h1; cases h; rfl
  rw [if_neg h1] at h
  by_cases h1 : p = 10
  · subst h1; cases h; rfl
  rw [if_neg h1] at h
  by_cases h1 : p = 11
  · subst h1; cases h; rfl
  rw [if_neg h1] at h
  by_cases h1 : p = 12
  · subst h1; cases h; rfl
  rw [if_neg h1] at h
  by_cases h1 : p = 13
  · subst h1; cases h; rfl
  rw [if_neg h1] at h
  by_cases h1 : p = 14
  · subst h1; cases h; rfl
  rw [if_neg h1] at h
  by_cases h1 : p = 15
  · subst h1; cases h; rfl
  rw [if_neg h1] at h
  by_cases h1 : p = 16
  · subst h1; cases h; rfl
  rw [if_neg h1] at h
  by_cases h1 : p = 17
  · subst h1; cases h; rfl
  rw [if_neg h1] at h
  by_cases h1 : p = 18
  · subst h1; cases h; rfl
  rw [if_neg h1] at h
  by_cases h1 : p = 19
  · subst h1; cases h; rfl
  rw [if_neg h1] at h
  by_cases h1 : p = 20
  · subst h1; cases h; rfl
  rw [if_neg h1] at h
  cases h
theorem drop_at {l r : List Int} {n : Nat} {x : Int} (h : l.drop n = x :: r) : l[n]? = some x ∧ l.drop (n + 1) = r := by
  refine ⟨?_, ?_⟩
  · have := congrArg (fun z => z[0]?) h
    simpa [List.getElem?_drop] using this
  · have := congrArg (fun z => z.drop 1) h
    simpa [List.drop_drop] using this
theorem ivs_at {l : List Int} {n : Nat} {x : Int} (h : l[n]? = some x) : (ivs l)[n]? = some (.int x) := by unfold ivs; rw [List.getElem?_map, h]; rfl
theorem cut_ivs {l a r : List Int} {n : Nat} (h : l.drop n = a ++ r) : cutV (ivs l) (some (n : Int)) (some ((n : Int) + (a.length : Int))) = ivs a := by
  have e : ((n : Int) + (a.length : Int)) = ((n + a.length : Nat) : Int) := by omega
  rw [e, cut_nat]
  unfold ivs
  rw [← List.map_drop, ← List.map_take, h]
  rw [List.take_append_of_le_length (Nat.le_refl _), List.take_length]
def spSplit (K : PySem.W.Frag) : Sp := fun vs H Q _ => ∃ (a : Addr) (l : List Int) (raw : List (List (List Int))), vs = [.ref a] ∧ SqL K H a (ivs l) ∧ l = PyFlat.put raw ∧ (∀ c ∈ raw, CallForm c) ∧ l.length ≤ 12500 ∧
  ∀ H' p as, Same H H' → H p = none → H' p = some (.lst (as.map V.ref)) → Paired (TupA H p H') as raw → Q (.ref p) H'
theorem ok_split_calls (T : Txt K mg A) : FnOk P w K mg base CX0 1 A.f_split_calls A.fd_split_calls ["calls"] (spSplit K) := by
  refine T.F_split_calls.ok sc_split_calls (fun vs H Q E h => ?_) (fun cdv B outer s H vs Q E hr h => ?_)
  · obtain ⟨a, l, raw, rfl, _⟩ := h
    rfl
  · obtain ⟨a, l, raw, rfl, ha, hput, hform, hlen, k⟩ := h
    refine ⟨_, (pss_cons (ps_set (i := 1) sc_split_calls.nd rfl (by first | exact Or.inl rfl | exact Or.inr rfl) (pe_lst pa_nil))
      (pss_cons (ps_set (i := 2) sc_split_calls.nd rfl (by first | exact Or.inl rfl | exact Or.inr rfl) pe_int)
      (pss_cons (ps_while PassesOwn.never (pt_cmpR op_lt (pv 2) (pe_callB (len_seqK (K := K) rfl) (by rfl) T.b_len boot_len (pa_cons (pv 0) pa_nil)) (nomark _)) (pss_cons (ps_set (i := 3) sc_split_calls.nd rfl (by first | exact Or.inl rfl | exact Or.inr rfl) (pe_ix (ix_listK (K := K) rfl) (pv 0) (pv 2) (fun _ _ => rfl)))
      (pss_cons (ps_aug (i := 2) sc_split_calls.nd rfl (by first | exact Or.inl rfl | exact Or.inr rfl) pe_int ip_add)
      (pss_cons (ps_if (pt_cmpR op_eq (pv 3) (pe_globI rfl T.m_START) (nomark _)) (pss_cons (ps_set (i := 4) sc_split_calls.nd rfl (by first | exact Or.inl rfl | exact Or.inr rfl) (pe_ix (ix_listK (K := K) rfl) (pv 0) (pv 2) (fun _ _ => rfl)))
      (pss_one (ps_aug (i := 2) sc_split_calls.nd rfl (by first | exact Or.inl rfl | exact Or.inr rfl) pe_int ip_add))) (pss_one (ps_set (i := 4) sc_split_calls.nd rfl (by first | exact Or.inl rfl | exact Or.inr rfl) (dgetMK (K := K) rfl (pe_glob (v := .ref A.d_HANDED) rfl T.m_HANDED rfl) (pv 3) (fun _ _ => rfl)))))
      (pss_cons (ps_expr (pe_bmK (K := K) rfl PySem.F.plainAttrs_list PySem.F.slot_list_append PySem.F.type_list_append mt_append (pv 1) (pa_cons (pe_tup (pa_cons (pv 3) (pa_cons (pe_slice (sl_listK (K := K) rfl) (pv 0) (po_some (pv 2)) (po_some (pe_op op_add (pv 2) (pv 4)))) pa_nil))) pa_nil)))
      (pss_one (ps_aug (i := 2) sc_split_calls.nd rfl (by first | exact Or.inl rfl | exact Or.inr rfl) (pv 4) ip_add)))))))
      (pss_one (ps_ret (pv 1)))))), ?_⟩
    refine ⟨Nat.zero_le _, fun fo hfo => ?_⟩
    refine while_by (fun σ H' => ∃ (n : Nat), ∃ done rest as v3 v4, σ = [some (.ref a), some (.ref fo), some (nv n), v3, v4] ∧ raw = done ++ rest ∧ l.drop n = PyFlat.put rest ∧ n ≤ l.length ∧ done.length ≤ n ∧ Same H H' ∧ H' fo = some (.lst (as.map V.ref)) ∧ Paired (TupA H fo H') as done)
      (fun σ _ => match σ with | [_, _, some (.int n), _, _] => l.length - n.toNat | _ => 0)
      ⟨0, [], raw, [], none, none, rfl, rfl, hput, Nat.zero_le _, Nat.zero_le _, (Same.refl _).laid hfo, upd_same, .nil⟩ ?_ ?_
    · rintro σ H1 ⟨n, done, rest, as, v3, v4, rfl, hraw, hd, hn, hdn, s1, hf1, P1⟩
      refine ⟨_, rfl, _, rfl, a, _, rfl, .inl (s1.seq ha), _, _, rfl, rfl, _, rfl, ?_⟩
      have el : (ivs l).length = l.length := by simp [ivs]
      rw [el]
      refine ite2 (fun h => ?_) (fun h => ?_)
      · have h : (n : Int) < (l.length : Int) := of_decide_eq_true h
        have hln : n < l.length := by omega
        cases rest with
        | nil =>
          have := congrArg List.length hd
          rw [List.length_drop] at this
          simp [PyFlat.put] at this
          omega
        | cons c rest =>
          have hd : l.drop n = PyFlat.put1 c ++ PyFlat.put rest := hd
          have hcf := hform c (by rw [hraw]; simp)
          have hlas : as.length < sizeLine := by rw [Paired.length P1, sizeLine_eq]; omega
          -- the turn's end, for both ways
          have fin : ∀ (m : Nat) (r : List Int) (H1' : Hp) (v3 v4 : Option V), argOf c = r → l.drop m = r ++ PyFlat.put rest → n < m → m + r.length ≤ l.length → ∀ (t q : Addr), H1 q = none → (upd H1 q (.lst (ivs r))) t = none →
              ∃ (n' : Nat) (done' : List (List (List Int))) (rest' : List (List (List Int))) (as' : List Addr), (m + r.length = n') ∧ raw = done' ++ rest' ∧ l.drop n' = PyFlat.put rest' ∧ n' ≤ l.length ∧ done'.length ≤ n' ∧
                Same H (upd (upd (upd H1 q (.lst (ivs r))) t (.tup [.int (numOf c), .ref q])) fo (.lst (as.map V.ref ++ [.ref t]))) ∧ (upd (upd (upd H1 q (.lst (ivs r))) t (.tup [.int (numOf c), .ref q])) fo (.lst (as.map V.ref ++ [.ref t]))) fo = some (.lst (as'.map V.ref)) ∧
                Paired (TupA H fo (upd (upd (upd H1 q (.lst (ivs r))) t (.tup [.int (numOf c), .ref q])) fo (.lst (as.map V.ref ++ [.ref t])))) as' done' ∧ l.length - n' < l.length - n := by
            intro m r _ _ _ er hdm hnm hml t q hq ht
            have s2 : Same H1 (upd (upd H1 q (.lst (ivs r))) t (.tup [.int (numOf c), .ref q])) := ((Same.refl _).laid hq).laid ht
            have nqf : q ≠ fo := fun e => by rw [e, hf1] at hq; cases hq
            have ntf : t ≠ fo := fun e => by
              have := ((Same.refl H1).laid hq (o := .lst (ivs r))) _ _ hf1
              rw [← e, ht] at this; cases this
            have ntq : q ≠ t := fun e => by rw [← e, upd_same] at ht; cases ht
            refine ⟨m + r.length, done ++ [c], rest, as ++ [t], rfl, by rw [hraw]; simp, ?_, hml, by rw [List.length_append]; simp; omega, (s1.trans s2).put hfo, by rw [upd_same, List.map_append]; rfl, ?_, by omega⟩
            · rw [← List.drop_drop, hdm]
              simp
            · refine pair_snoc (pair_keep (fun b _ z hz => hz.keep (fun a' o e hne => by rw [upd_ne hne]; exact s2 _ _ e) ⟨_, hf1⟩) P1) ⟨q, ?_, nqf, s1.free hq, ?_⟩
              · rw [upd_ne ntf, upd_same]
              · rw [upd_ne nqf, upd_ne ntq, upd_same, er]
          cases hcf with
          | start r =>
            rw [PyFlat.put1, PyFlat.putRows, PyFlat.putRows, PyFlat.putRow, List.append_nil] at hd
            have hd : l.drop n = 0 :: ((r.length : Int) :: (r ++ PyFlat.put rest)) := hd
            obtain ⟨a1, hd1⟩ := drop_at hd
            obtain ⟨a2, hd2⟩ := drop_at hd1
            refine ⟨_, rfl, _, rfl, a, _, _, _, rfl, rfl, s1.seq ha, at_of (j := n) rfl (ivs_at a1), ?_⟩
            refine ⟨_, rfl, _, _, rfl, rfl, ?_⟩
            refine ⟨_, rfl, rfl, _, rfl, ?_⟩
            refine ⟨_, rfl, _, rfl, a, _, _, _, rfl, rfl, s1.seq ha, at_of (j := n + 1) (by show (n : Int) + 1 = ((n + 1 : Nat) : Int); omega) (ivs_at a2), ?_⟩
            refine ⟨_, rfl, _, _, rfl, rfl, ?_⟩
            refine ⟨_, rfl, .inl ⟨rfl, _, SqL.of hf1⟩, _, rfl, _, rfl, _, rfl, _, rfl, _, rfl, _, rfl, _, _, rfl, rfl, _, rfl, a, _, rfl, s1.seq ha, fun q hq => ⟨(by show 2 ≤ sizeLine; decide), fun t ht => ?_⟩⟩
            generalize hX : cutV (ivs l) _ _ = X at ht ⊢
            have eX : X = ivs r := hX.symm.trans (by
              have := cut_ivs (n := n + 1 + 1) hd2
              rw [show ((n + 1 + 1 : Nat) : Int) = (n : Int) + 1 + 1 by omega] at this
              exact this)
            subst eX
            have hml : n + 1 + 1 + r.length ≤ l.length := by
              have := congrArg List.length hd2
              rw [List.length_drop, List.length_append] at this
              have h2 : n + 1 + 1 ≤ l.length := by
                have := (List.getElem?_eq_some_iff.mp a2).1
                omega
              omega
            obtain ⟨n', done', rest', as', e1, e2, e3, e4, e5, e6, e7, e8, e9⟩ := fin (n + 1 + 1) r H1 none none rfl hd2 (by omega) hml t q hq ht
            have s2 : Same H1 (upd (upd H1 q (.lst (ivs r))) t (.tup [.int 0, .ref q])) := ((Same.refl _).laid hq).laid ht
            refine ⟨fo, _, _, rfl, rfl, s2 _ _ hf1, by rw [List.length_map]; exact hlas, ?_⟩
            refine ⟨_, rfl, _, rfl, _, _, rfl, rfl, ⟨n', done', rest', as', some (.int 0), some (nv r.length), ?_, e2, e3, e4, e5, e6, e7, e8⟩, ?_⟩
            · subst e1
              rw [show nv (n + 1 + 1 + r.length) = V.int ((n : Int) + 1 + 1 + (r.length : Int)) by show V.int _ = V.int _; congr 1]
              rfl
            · show l.length - ((n : Int) + 1 + 1 + (r.length : Int)).toNat < l.length - (n : Int).toNat
              omega
          | plain p b h0 hk =>
            rw [put1_plain] at hd
            have hd : l.drop n = p :: (b ++ PyFlat.put rest) := hd
            obtain ⟨a1, hd1⟩ := drop_at hd
            refine ⟨_, rfl, _, rfl, a, _, _, _, rfl, rfl, s1.seq ha, at_of (j := n) rfl (ivs_at a1), ?_⟩
            refine ⟨_, rfl, _, _, rfl, rfl, ?_⟩
            refine ⟨_, rfl, rfl, _, rfl, ?_⟩
            have hp0 : decide (V.int p = V.int 0) = false := decide_eq_false fun e => h0 (by injection e)
            rw [hp0]
            refine ⟨_, rfl, A.d_HANDED, HK, Sum.inl p, _, rfl, T.D_HANDED, rfl, handed_val h0 hk, ?_⟩
            refine ⟨_, rfl, .inl ⟨rfl, _, SqL.of hf1⟩, _, rfl, _, rfl, _, rfl, _, rfl, _, rfl, _, rfl, _, _, rfl, rfl, _, rfl, a, _, rfl, s1.seq ha, fun q hq => ⟨(by show 2 ≤ sizeLine; decide), fun t ht => ?_⟩⟩
            generalize hX : cutV (ivs l) _ _ = X at ht ⊢
            have eX : X = ivs b := hX.symm.trans (by
              have := cut_ivs (n := n + 1) hd1
              rw [show ((n + 1 : Nat) : Int) = (n : Int) + 1 by omega] at this
              exact this)
            subst eX
            have hml : n + 1 + b.length ≤ l.length := by
              have := congrArg List.length hd1
              rw [List.length_drop, List.length_append] at this
              omega
            obtain ⟨n', done', rest', as', e1, e2, e3, e4, e5, e6, e7, e8, e9⟩ := fin (n + 1) b H1 none none rfl hd1 (by omega) hml t q hq ht
            have s2 : Same H1 (upd (upd H1 q (.lst (ivs b))) t (.tup [.int p, .ref q])) := ((Same.refl _).laid hq).laid ht
            refine ⟨fo, _, _, rfl, rfl, s2 _ _ hf1, by rw [List.length_map]; exact hlas, ?_⟩
            refine ⟨_, rfl, _, rfl, _, _, rfl, rfl, ⟨n', done', rest', as', some (.int p), some (nv b.length), ?_, e2, e3, e4, e5, e6, e7, e8⟩, ?_⟩
            · subst e1
              rw [show nv (n + 1 + b.length) = V.int ((n : Int) + 1 + (b.length : Int)) by show V.int _ = V.int _; congr 1]
              rfl
            · show l.length - ((n : Int) + 1 + (b.length : Int)).toNat < l.length - (n : Int).toNat
              omega
      · have h : ¬ (n : Int) < (l.length : Int) := fun e => h (decide_eq_true e)
        have hr : rest = [] := by
          have := congrArg List.length hd
          rw [List.length_drop] at this
          cases rest with
          | nil => rfl
          | cons c rest =>
            exfalso
            have hne := put1_ne (hform c (by rw [hraw]; simp))
            have : (PyFlat.put1 c ++ PyFlat.put rest).length = 0 := by
              show (PyFlat.put (c :: rest)).length = 0
              omega
            rw [List.length_eq_zero_iff, List.append_eq_nil_iff] at this
            exact hne this.1
        subst hr
        rw [List.append_nil] at hraw
        subst hraw
        exact ⟨_, rfl, k _ _ _ s1 hfo hf1 P1⟩
    · rintro σ H Q Q' hq ⟨v, e1, v2, e2, p, ys, h1, h2, i, j, h3, h4, c, h5, h6⟩
      exact ⟨v, e1, v2, e2, p, ys, h1, h2, i, j, h3, h4, c, h5, hq _ _ h6⟩
end
end CP
end

section
set_option Elab.async false
set_option linter.all false
set_option maxRecDepth 100000
set_option maxHeartbeats 1000000
namespace CP
open PySem PySem.Spec PyProof.Rows L2
section
variable {P : Program} {w : World} {K : PySem.W.Frag} {mg : Str → Option Value} {base : Heap} {A : Ad}
def callN (p : Int) (ns : List Nat) : Option Kqb4.Call := Kqb4Neutral.callOf [p :: ns.map fun (n : Nat) => (n : Int)]
abbrev fewC := fewS
theorem few_fewC {p : Int} {a : List Int} {cc : Kqb4.Call} {y : Kqb4.Shop} (h0 : p ≠ 0) (h : handedOf p = some a.length) (hc : Kqb4Neutral.callOf [p :: a] = some cc) (hf : Kqb4Neutral.few (some y) [p :: a] = true) : fewC y cc := few_S h0 h hc hf
theorem mkCell_call {ns : List Nat} {c : Kqb4.Call} (h : callN 1 ns = some c) : mkCell ns = some c ∧ ns.length = 2 := by
  match ns, h with
  | [], h => cases h
  | [a], h => cases h
  | [a, b], h => exact ⟨h, rfl⟩
  | [a, b, c], h => cases h
  | a :: b :: d :: e :: _, h => cases h
theorem mkTest_call {ns : List Nat} {c : Kqb4.Call} (h : callN 2 ns = some c) : mkTest ns = some c ∧ ns.length = 3 := by
  match ns, h with
  | [], h => cases h
  | [a], h => cases h
  | [a, b], h => cases h
  | [a, b, c], h => exact ⟨h, rfl⟩
  | a :: b :: d :: e :: _, h => cases h
theorem mkScrap_call {ns : List Nat} {c : Kqb4.Call} (h : callN 3 ns = some c) : mkScrap ns = some c ∧ ns.length = 1 := by
  match ns, h with
  | [], h => cases h
  | [a], h => exact ⟨h, rfl⟩
  | [a, b], h => cases h
  | [a, b, c], h => cases h
  | a :: b :: d :: e :: _, h => cases h
theorem mkGrade_call {ns : List Nat} {c : Kqb4.Call} (h : callN 4 ns = some c) : mkGrade ns = some c ∧ ns.length = 1 := by
  match ns, h with
  | [], h => cases h
  | [a], h => exact ⟨h, rfl⟩
  | [a, b], h => cases h
  | [a, b, c], h => cases h
  | a :: b :: d :: e :: _, h => cases h
theorem mkGrades_call {ns : List Nat} {c : Kqb4.Call} (h : callN 5 ns = some c) : mkGrades ns = some c ∧ ns.length = 0 := by
  match ns, h with
  | [], h => exact ⟨h, rfl⟩
  | [a], h => cases h
  | [a, b], h => cases h
  | [a, b, c], h => cases h
  | a :: b :: d :: e :: _, h => cases h
theorem mkMatch_call {ns : List Nat} {c : Kqb4.Call} (h : callN 6 ns = some c) : mkMatch ns = some c ∧ ns.length = 2 := by
  match ns, h with
  | [], h => cases h
  | [a], h => cases h
  | [a, b], h => exact ⟨h, rfl⟩
  | [a, b, c], h => cases h
  | a :: b :: d :: e :: _, h => cases h
theorem mkBuild_call {ns : List Nat} {c : Kqb4.Call} (h : callN 7 ns = some c) : mkBuild ns = some c ∧ ns.length = 2 := by
  match ns, h with
  | [], h => cases h
  | [a], h => cases h
  | [a, b], h => exact ⟨h, rfl⟩
  | [a, b, c], h => cases h
  | a :: b :: d :: e :: _, h => cases h
theorem mkCould_call {ns : List Nat} {c : Kqb4.Call} (h : callN 8 ns = some c) : mkCould ns = some c ∧ ns.length = 3 := by
  match ns, h with
  | [], h => cases h
  | [a], h => cases h
  | [a, b], h => cases h
  | [a, b, c], h => exact ⟨h, rfl⟩
  | a :: b :: d :: e :: _, h => cases h
theorem mkPack_call {ns : List Nat} {c : Kqb4.Call} (h : callN 9 ns = some c) : mkPack ns = some c ∧ ns.length = 1 := by
  match ns, h with
  | [], h => cases h
  | [a], h => exact ⟨h, rfl⟩
  | [a, b], h => cases h
  | [a, b, c], h => cases h
  | a :: b :: d :: e :: _, h => cases h
theorem mkStrength_call {ns : List Nat} {c : Kqb4.Call} (h : callN 10 ns = some c) : mkStrength ns = some c ∧ ns.length = 1 := by
  match ns, h with
  | [], h => cases h
  | [a], h => exact ⟨h, rfl⟩
  | [a, b], h => cases h
  | [a, b, c], h => cases h
  | a :: b :: d :: e :: _, h => cases h
theorem mkWeak_call {ns : List Nat} {c : Kqb4.Call} (h : callN 11 ns = some c) : mkWeak ns = some c ∧ ns.length = 1 := by
  match ns, h with
  | [], h => cases h
  | [a], h => exact ⟨h, rfl⟩
  | [a, b], h => cases h
  | [a, b, c], h => cases h
  | a :: b :: d :: e :: _, h => cases h
theorem mkLacks_call {ns : List Nat} {c : Kqb4.Call} (h : callN 12 ns = some c) : mkLacks ns = some c ∧ ns.length = 1 := by
  match ns, h with
  | [], h => cases h
  | [a], h => exact ⟨h, rfl⟩
  | [a, b], h => cases h
  | [a, b, c], h => cases h
  | a :: b :: d :: e :: _, h => cases h
theorem mkBetter_call {ns : List Nat} {c : Kqb4.Call} (h : callN 13 ns = some c) : mkBetter ns = some c ∧ ns.length = 1 := by
  match ns, h with
  | [], h => cases h
  | [a], h => exact ⟨h, rfl⟩
  | [a, b], h => cases h
  | [a, b, c], h => cases h
  | a :: b :: d :: e :: _, h => cases h
theorem mkExchange_call {ns : List Nat} {c : Kqb4.Call} (h : callN 14 ns = some c) : mkExchange ns = some c ∧ ns.length = 2 := by
  match ns, h with
  | [], h => cases h
  | [a], h => cases h
  | [a, b], h => exact ⟨h, rfl⟩
  | [a, b, c], h => cases h
  | a :: b :: d :: e :: _, h => cases h
theorem mkResists_call {ns : List Nat} {c : Kqb4.Call} (h : callN 15 ns = some c) : mkResists ns = some c ∧ ns.length = 1 := by
  match ns, h with
  | [], h => cases h
  | [a], h => exact ⟨h, rfl⟩
  | [a, b], h => cases h
  | [a, b, c], h => cases h
  | a :: b :: d :: e :: _, h => cases h
theorem mkNear_call {ns : List Nat} {c : Kqb4.Call} (h : callN 16 ns = some c) : mkNear ns = some c ∧ ns.length = 0 := by
  match ns, h with
  | [], h => exact ⟨h, rfl⟩
  | [a], h => cases h
  | [a, b], h => cases h
  | [a, b, c], h => cases h
  | a :: b :: d :: e :: _, h => cases h
theorem mkLoose_call {ns : List Nat} {c : Kqb4.Call} (h : callN 17 ns = some c) : mkLoose ns = some c ∧ ns.length = 0 := by
  match ns, h with
  | [], h => exact ⟨h, rfl⟩
  | [a], h => cases h
  | [a, b], h => cases h
  | [a, b, c], h => cases h
  | a :: b :: d :: e :: _, h => cases h
theorem mkRetire_call {ns : List Nat} {c : Kqb4.Call} (h : callN 18 ns = some c) : mkRetire ns = some c ∧ ns.length = 1 := by
  match ns, h with
  | [], h => cases h
  | [a], h => exact ⟨h, rfl⟩
  | [a, b], h => cases h
  | [a, b, c], h => cases h
  | a :: b :: d :: e :: _, h => cases h
theorem mkLook_call {ns : List Nat} {c : Kqb4.Call} (h : callN 19 ns = some c) : mkLook ns = some c ∧ ns.length = 1 := by
  match ns, h with
  | [], h => cases h
  | [a], h => exact ⟨h, rfl⟩
  | [a, b], h => cases h
  | [a, b, c], h => cases h
  | a :: b :: d :: e :: _, h => cases h
theorem mkState_call {ns : List Nat} {c : Kqb4.Call} (h : callN 20 ns = some c) : mkState ns = some c ∧ ns.length = 0 := by
  match ns, h with
  | [], h => exact ⟨h, rfl⟩
  | [a], h => cases h
  | [a, b], h => cases h
  | [a, b, c], h => cases h
  | a :: b :: d :: e :: _, h => cases h
theorem few8_mkMatch {ns : List Nat} {c : Kqb4.Call} {y : Kqb4.Shop} (h : mkMatch ns = some c) (f : fewC y c) : ok8 y c := by
  obtain ⟨_, _, _, rfl⟩ := mkMatch_is h
  exact f
theorem few8_mkBuild {ns : List Nat} {c : Kqb4.Call} {y : Kqb4.Shop} (h : mkBuild ns = some c) (f : fewC y c) : ok8 y c := by
  obtain ⟨_, _, _, rfl⟩ := mkBuild_is h
  exact f
theorem few8_mkCould {ns : List Nat} {c : Kqb4.Call} {y : Kqb4.Shop} (h : mkCould ns = some c) (f : fewC y c) : ok8 y c := by
  obtain ⟨_, _, _, _, rfl⟩ := mkCould_is h
  exact f
def ACTK (A : Ad) : List (Key × V) := [(Sum.inl 1, .ref A.f_add_cell), (Sum.inl 2, .ref A.f_retest_cell), (Sum.inl 3, .ref A.f_scrap_cell), (Sum.inl 4, .ref A.f_grade_cell), (Sum.inl 5, .ref A.f_count_grades), (Sum.inl 6, .ref A.f_match_cells), (Sum.inl 7, .ref A.f_build_pack), (Sum.inl 8, .ref A.f_could_build), (Sum.inl 9, .ref A.f_tell_pack), (Sum.inl 10, .ref A.f_tell_strength), (Sum.inl 11, .ref A.f_tell_weak), (Sum.inl 12, .ref A.f_tell_lacks), (Sum.inl 13, .ref A.f_tell_better), (Sum.inl 14, .ref A.f_exchange), (Sum.inl 15, .ref A.f_tell_resists), (Sum.inl 16, .ref A.f_tell_near), (Sum.inl 17, .ref A.f_tell_loose), (Sum.inl 18, .ref A.f_retire_pack), (Sum.inl 19, .ref A.f_look_at_cell), (Sum.inl 20, .ref A.f_tell_state)]
theorem handed_20 {p : Int} {k : Nat} (h0 : p ≠ 0) (h : handedOf p = some k) : p ≤ 20 := by
  refine Classical.byContradiction fun hp => ?_
  unfold handedOf PyKqb4.shape at h
  rw [if_neg (by omega)] at h
  rw [if_neg (by omega)] at h
  rw [if_neg (by omega)] at h
  rw [if_neg (by omega)] at h
  rw [if_neg (by omega)] at h
  rw [if_neg (by omega)] at h
  rw [if_neg (by omega)] at h
  rw [if_neg (by omega)] at h
  rw [if_neg (by omega)] at h
  rw [if_neg (by omega)] at h
  rw [if_neg (by omega)] at h
  rw [if_neg (by omega)] at h
  rw [if_neg (by omega)] at h
  rw [if_neg (by omega)] at h
  rw [if_neg (by omega)] at h
  rw [if_neg (by omega)] at h
  rw [if_neg (by omega)] at h
  rw [if_neg (by omega)] at h
  rw [if_neg (by omega)] at h
  rw [if_neg (by omega)] at h
  rw [if_neg (by omega)] at h
  cases h
/-- what a call's def promises, by the call's number -/
def spNum (A : Ad) (p : Int) : List V → Hp → VK → Prop := fun vs H Q => ∃ (st : Addr) (y : Kqb4.Shop) (L : Loca) (ns : List Nat) (c : Kqb4.Call), vs = .ref st :: ns.map nv ∧ callN p ns = some c ∧ (∀ n ∈ ns, n < 4294967296) ∧ Rep A H st y L ∧ Good y ∧ fewC y c ∧ Act A H st L y c Q
theorem acts_of (T : Txt K mg A) {X : Cx} (eP : X.prog = P) (ew : X.w = w) (eK : X.K = K) (em : X.mg = mg) (eb : X.base = base) (hr : Room 6 X.A) {p : Int} (h0 : 0 < p) (h10 : p ≤ 20) :
    ∃ fv, valV (ACTK A) (Sum.inl p) = some fv ∧ CallsTo X fv (spNum A p) := by
  subst eP ew eK em eb
  by_cases h1 : p = 1
  · subst h1
    refine ⟨.ref A.f_add_cell, rfl, _, A.f_add_cell, A.fd_add_cell, _, _, rfl, ok_add_cell T, hr.mono (by decide), T.F_add_cell.kp, T.b_add_cell, fun vs H Q ⟨st, y, L, ns, c, e1, e2, e3, R, G, fw, k⟩ => ⟨st, y, L, ns, c, e1, (mkCell_call e2).1, e3, R, G, trivial, k⟩⟩
  by_cases h1 : p = 2
  · subst h1
    refine ⟨.ref A.f_retest_cell, rfl, _, A.f_retest_cell, A.fd_retest_cell, _, _, rfl, ok_retest_cell T, hr.mono (by decide), T.F_retest_cell.kp, T.b_retest_cell, fun vs H Q ⟨st, y, L, ns, c, e1, e2, e3, R, G, fw, k⟩ => ⟨st, y, L, ns, c, e1, (mkTest_call e2).1, e3, R, G, trivial, k⟩⟩
  by_cases h1 : p = 3
  · subst h1
    refine ⟨.ref A.f_scrap_cell, rfl, _, A.f_scrap_cell, A.fd_scrap_cell, _, _, rfl, ok_scrap_cell T, hr.mono (by decide), T.F_scrap_cell.kp, T.b_scrap_cell, fun vs H Q ⟨st, y, L, ns, c, e1, e2, e3, R, G, fw, k⟩ => ⟨st, y, L, ns, c, e1, (mkScrap_call e2).1, e3, R, G, trivial, k⟩⟩
  by_cases h1 : p = 4
  · subst h1
    refine ⟨.ref A.f_grade_cell, rfl, _, A.f_grade_cell, A.fd_grade_cell, _, _, rfl, ok_grade_cell T, hr.mono (by decide), T.F_grade_cell.kp, T.b_grade_cell, fun vs H Q ⟨st, y, L, ns, c, e1, e2, e3, R, G, fw, k⟩ => ⟨st, y, L, ns, c, e1, (mkGrade_call e2).1, e3, R, G, trivial, k⟩⟩
  by_cases h1 : p = 5
  · subst h1
    refine ⟨.ref A.f_count_grades, rfl, _, A.f_count_grades, A.fd_count_grades, _, _, rfl, ok_count_grades T, hr.mono (by decide), T.F_count_grades.kp, T.b_count_grades, fun vs H Q ⟨st, y, L, ns, c, e1, e2, e3, R, G, fw, k⟩ => ⟨st, y, L, ns, c, e1, (mkGrades_call e2).1, e3, R, G, trivial, k⟩⟩
  by_cases h1 : p = 6
  · subst h1
    refine ⟨.ref A.f_match_cells, rfl, _, A.f_match_cells, A.fd_match_cells, _, _, rfl, ok_match_cells T, hr.mono (by decide), T.F_match_cells.kp, T.b_match_cells, fun vs H Q ⟨st, y, L, ns, c, e1, e2, e3, R, G, fw, k⟩ => ⟨st, y, L, ns, c, e1, (mkMatch_call e2).1, e3, R, G, few8_mkMatch (mkMatch_call e2).1 fw, k⟩⟩
  by_cases h1 : p = 7
  · subst h1
    refine ⟨.ref A.f_build_pack, rfl, _, A.f_build_pack, A.fd_build_pack, _, _, rfl, ok_build_pack T, hr.mono (by decide), T.F_build_pack.kp, T.b_build_pack, fun vs H Q ⟨st, y, L, ns, c, e1, e2, e3, R, G, fw, k⟩ => ⟨st, y, L, ns, c, e1, (mkBuild_call e2).1, e3, R, G, few8_mkBuild (mkBuild_call e2).1 fw, k⟩⟩
  by_cases h1 : p = 8
  · subst h1
    refine ⟨.ref A.f_could_build, rfl, _, A.f_could_build, A.fd_could_build, _, _, rfl, ok_could_build T, hr.mono (by decide), T.F_could_build.kp, T.b_could_build, fun vs H Q ⟨st, y, L, ns, c, e1, e2, e3, R, G, fw, k⟩ => ⟨st, y, L, ns, c, e1, (mkCould_call e2).1, e3, R, G, few8_mkCould (mkCould_call e2).1 fw, k⟩⟩
  by_cases h1 : p = 9
  · subst h1
    refine ⟨.ref A.f_tell_pack, rfl, _, A.f_tell_pack, A.fd_tell_pack, _, _, rfl, ok_tell_pack T, hr.mono (by decide), T.F_tell_pack.kp, T.b_tell_pack, fun vs H Q ⟨st, y, L, ns, c, e1, e2, e3, R, G, fw, k⟩ => ⟨st, y, L, ns, c, e1, (mkPack_call e2).1, e3, R, G, trivial, k⟩⟩
  by_cases h1 : p = 10
  · subst h1
    refine ⟨.ref A.f_tell_strength, rfl, _, A.f_tell_strength, A.fd_tell_strength, _, _, rfl, ok_tell_strength T, hr.mono (by decide), T.F_tell_strength.kp, T.b_tell_strength, fun vs H Q ⟨st, y, L, ns, c, e1, e2, e3, R, G, fw, k⟩ => ⟨st, y, L, ns, c, e1, (mkStrength_call e2).1, e3, R, G, trivial, k⟩⟩
  by_cases h1 : p = 11
  · subst h1
    refine ⟨.ref A.f_tell_weak, rfl, _, A.f_tell_weak, A.fd_tell_weak, _, _, rfl, ok_tell_weak T, hr.mono (by decide), T.F_tell_weak.kp, T.b_tell_weak, fun vs H Q ⟨st, y, L, ns, c, e1, e2, e3, R, G, fw, k⟩ => ⟨st, y, L, ns, c, e1, (mkWeak_call e2).1, e3, R, G, trivial, k⟩⟩
  by_cases h1 : p = 12
  · subst h1
    refine ⟨.ref A.f_tell_lacks, rfl, _, A.f_tell_lacks, A.fd_tell_lacks, _, _, rfl, ok_tell_lacks T, hr.mono (by decide), T.F_tell_lacks.kp, T.b_tell_lacks, fun vs H Q ⟨st, y, L, ns, c, e1, e2, e3, R, G, fw, k⟩ => ⟨st, y, L, ns, c, e1, (mkLacks_call e2).1, e3, R, G, trivial, k⟩⟩
  by_cases h1 : p = 13
  · subst h1
    refine ⟨.ref A.f_tell_better, rfl, _, A.f_tell_better, A.fd_tell_better, _, _, rfl, ok_tell_better T, hr.mono (by decide), T.F_tell_better.kp, T.b_tell_better, fun vs H Q ⟨st, y, L, ns, c, e1, e2, e3, R, G, fw, k⟩ => ⟨st, y, L, ns, c, e1, (mkBetter_call e2).1, e3, R, G, trivial, k⟩⟩
  by_cases h1 : p = 14
  · subst h1
    refine ⟨.ref A.f_exchange, rfl, _, A.f_exchange, A.fd_exchange, _, _, rfl, ok_exchange T, hr.mono (by decide), T.F_exchange.kp, T.b_exchange, fun vs H Q ⟨st, y, L, ns, c, e1, e2, e3, R, G, fw, k⟩ => ⟨st, y, L, ns, c, e1, (mkExchange_call e2).1, e3, R, G, trivial, k⟩⟩
  by_cases h1 : p = 15
  · subst h1
    refine ⟨.ref A.f_tell_resists, rfl, _, A.f_tell_resists, A.fd_tell_resists, _, _, rfl, ok_tell_resists T, hr.mono (by decide), T.F_tell_resists.kp, T.b_tell_resists, fun vs H Q ⟨st, y, L, ns, c, e1, e2, e3, R, G, fw, k⟩ => ⟨st, y, L, ns, c, e1, (mkResists_call e2).1, e3, R, G, trivial, k⟩⟩
  by_cases h1 : p = 16
  · subst h1
    refine ⟨.ref A.f_tell_near, rfl, _, A.f_tell_near, A.fd_tell_near, _, _, rfl, ok_tell_near T, hr.mono (by decide), T.F_tell_near.kp, T.b_tell_near, fun vs H Q ⟨st, y, L, ns, c, e1, e2, e3, R, G, fw, k⟩ => ⟨st, y, L, ns, c, e1, (mkNear_call e2).1, e3, R, G, trivial, k⟩⟩
  by_cases h1 : p = 17
  · subst h1
    refine ⟨.ref A.f_tell_loose, rfl, _, A.f_tell_loose, A.fd_tell_loose, _, _, rfl, ok_tell_loose T, hr.mono (by decide), T.F_tell_loose.kp, T.b_tell_loose, fun vs H Q ⟨st, y, L, ns, c, e1, e2, e3, R, G, fw, k⟩ => ⟨st, y, L, ns, c, e1, (mkLoose_call e2).1, e3, R, G, trivial, k⟩⟩
  by_cases h1 : p = 18
  · subst h1
    refine ⟨.ref A.f_retire_pack, rfl, _, A.f_retire_pack, A.fd_retire_pack, _, _, rfl, ok_retire_pack T, hr.mono (by decide), T.F_retire_pack.kp, T.b_retire_pack, fun vs H Q ⟨st, y, L, ns, c, e1, e2, e3, R, G, fw, k⟩ => ⟨st, y, L, ns, c, e1, (mkRetire_call e2).1, e3, R, G, trivial, k⟩⟩
  by_cases h1 : p = 19
  · subst h1
    refine ⟨.ref A.f_look_at_cell, rfl, _, A.f_look_at_cell, A.fd_look_at_cell, _, _, rfl, ok_look_at_cell T, hr.mono (by decide), T.F_look_at_cell.kp, T.b_look_at_cell, fun vs H Q ⟨st, y, L, ns, c, e1, e2, e3, R, G, fw, k⟩ => ⟨st, y, L, ns, c, e1, (mkLook_call e2).1, e3, R, G, trivial, k⟩⟩
  by_cases h1 : p = 20
  · subst h1
    refine ⟨.ref A.f_tell_state, rfl, _, A.f_tell_state, A.fd_tell_state, _, _, rfl, ok_tell_state T, hr.mono (by decide), T.F_tell_state.kp, T.b_tell_state, fun vs H Q ⟨st, y, L, ns, c, e1, e2, e3, R, G, fw, k⟩ => ⟨st, y, L, ns, c, e1, (mkState_call e2).1, e3, R, G, trivial, k⟩⟩
  omega
def spCall (A : Ad) : Sp := fun vs H Q _ => ∃ (st hd : Addr) (y : Kqb4.Shop) (L : Loca) (p : Int) (ns : List Nat) (c : Kqb4.Call), vs = [.ref st, .int p, .ref hd] ∧ 0 < p ∧ p ≤ 20 ∧ H hd = some (.lst (ns.map nv)) ∧ ns.length ≤ 3 ∧ callN p ns = some c ∧ (∀ n ∈ ns, n < 4294967296) ∧ Rep A H st y L ∧ Good y ∧ fewC y c ∧ Act A H st L y c Q
theorem ok_answer_call (T : Txt K mg A) : FnOk P w K mg base CX0 7 A.f_answer_call A.fd_answer_call ["stock", "number", "handed"] (spCall A) := by
  refine T.F_answer_call.ok sc_answer_call (fun vs H Q E h => ?_) (fun cdv B outer s H vs Q E hr h => ?_)
  · obtain ⟨st, hd, y, L, p, ns, c, rfl, _⟩ := h
    rfl
  · obtain ⟨st, hd, y, L, p, ns, c, rfl, h0, h10, hhd, hns, hc, h32, R, G, fw, k⟩ := h
    refine ⟨_, (pss_cons (ps_set (i := 3) sc_answer_call.nd rfl (by first | exact Or.inl rfl | exact Or.inr rfl) (dgetMK (K := K) rfl (pe_glob (v := .ref A.d_ACTIONS) rfl T.m_ACTIONS rfl) (pv 1) (fun _ _ => rfl)))
      (pss_cons (ps_if (pt_cmpR op_eq (pe_callB (len_seqK (K := K) rfl) (by rfl) T.b_len boot_len (pa_cons (pv 2) pa_nil)) pe_int (nomark _)) (pss_one (ps_ret (pe_callV (i := 3) rfl (by first | exact Or.inl rfl | exact Or.inr (Or.inl rfl)) (pa_cons (pv 0) pa_nil)))) pss_nil)
      (pss_cons (ps_if (pt_cmpR op_eq (pe_callB (len_seqK (K := K) rfl) (by rfl) T.b_len boot_len (pa_cons (pv 2) pa_nil)) pe_int (nomark _)) (pss_one (ps_ret (pe_callV (i := 3) rfl (by first | exact Or.inl rfl | exact Or.inr (Or.inl rfl)) (pa_cons (pv 0) (pa_cons (pe_ix (ix_listK (K := K) rfl) (pv 2) pe_int (fun _ _ => rfl)) pa_nil))))) pss_nil)
      (pss_cons (ps_if (pt_cmpR op_eq (pe_callB (len_seqK (K := K) rfl) (by rfl) T.b_len boot_len (pa_cons (pv 2) pa_nil)) pe_int (nomark _)) (pss_one (ps_ret (pe_callV (i := 3) rfl (by first | exact Or.inl rfl | exact Or.inr (Or.inl rfl)) (pa_cons (pv 0) (pa_cons (pe_ix (ix_listK (K := K) rfl) (pv 2) pe_int (fun _ _ => rfl)) (pa_cons (pe_ix (ix_listK (K := K) rfl) (pv 2) pe_int (fun _ _ => rfl)) pa_nil)))))) pss_nil)
      (pss_one (ps_ret (pe_callV (i := 3) rfl (by first | exact Or.inl rfl | exact Or.inr (Or.inl rfl)) (pa_cons (pv 0) (pa_cons (pe_ix (ix_listK (K := K) rfl) (pv 2) pe_int (fun _ _ => rfl)) (pa_cons (pe_ix (ix_listK (K := K) rfl) (pv 2) pe_int (fun _ _ => rfl)) (pa_cons (pe_ix (ix_listK (K := K) rfl) (pv 2) pe_int (fun _ _ => rfl)) pa_nil))))))))))), ?_⟩
    obtain ⟨fv, hv, hcall⟩ := acts_of T (X := (cxOf CX0 P w K mg base ["stock", "number", "handed", "action"] "answer_call" (defScope s_answer_call) A.f_answer_call cdv B outer s H E).nox) rfl rfl rfl rfl rfl (hr.mono (by decide)) h0 h10
    refine ⟨_, rfl, A.d_ACTIONS, ACTK A, Sum.inl p, _, rfl, T.D_ACTIONS, rfl, hv, ?_⟩
    refine ⟨_, rfl, hd, _, rfl, .inl (SqL.of hhd), rfl, _, rfl, ?_⟩
    rw [List.length_map]
    match ns, hns, hhd, hc, h32 with
    | [], _, hhd, hc, h32 =>
      exact ⟨_, rfl, _, hcall, _, rfl, st, y, L, [], c, rfl, hc, h32, R, G, fw, k⟩
    | [a], _, hhd, hc, h32 =>
      refine ⟨_, rfl, hd, _, rfl, .inl (SqL.of hhd), rfl, _, rfl, ?_⟩
      refine ⟨_, rfl, _, hcall, _, rfl, _, rfl, hd, _, _, _, rfl, rfl, SqL.of hhd, at_of (j := 0) rfl rfl, st, y, L, [a], c, rfl, hc, h32, R, G, fw, k⟩
    | [a, b], _, hhd, hc, h32 =>
      refine ⟨_, rfl, hd, _, rfl, .inl (SqL.of hhd), rfl, _, rfl, ?_⟩
      refine ⟨_, rfl, hd, _, rfl, .inl (SqL.of hhd), rfl, _, rfl, ?_⟩
      refine ⟨_, rfl, _, hcall, _, rfl, _, rfl, hd, _, _, _, rfl, rfl, SqL.of hhd, at_of (j := 0) rfl rfl, _, rfl, hd, _, _, _, rfl, rfl, SqL.of hhd, at_of (j := 1) rfl rfl, st, y, L, [a, b], c, rfl, hc, h32, R, G, fw, k⟩
    | [a, b, d], _, hhd, hc, h32 =>
      refine ⟨_, rfl, hd, _, rfl, .inl (SqL.of hhd), rfl, _, rfl, ?_⟩
      refine ⟨_, rfl, hd, _, rfl, .inl (SqL.of hhd), rfl, _, rfl, ?_⟩
      refine ⟨_, rfl, _, hcall, _, rfl, _, rfl, hd, _, _, _, rfl, rfl, SqL.of hhd, at_of (j := 0) rfl rfl, _, rfl, hd, _, _, _, rfl, rfl, SqL.of hhd, at_of (j := 1) rfl rfl, _, rfl, hd, _, _, _, rfl, rfl, SqL.of hhd, at_of (j := 2) rfl rfl, st, y, L, [a, b, d], c, rfl, hc, h32, R, G, fw, k⟩
    | a :: b :: d :: e :: l, hns, _, _, _ => simp at hns
end
end CP
end

section
set_option Elab.async false
set_option linter.all false
set_option maxRecDepth 100000
set_option maxHeartbeats 1000000
namespace CP
open PySem PySem.Spec PyProof.Rows L2
section
variable {P : Program} {w : World} {K : PySem.W.Frag} {mg : Str → Option Value} {base : Heap} {A : Ad}
theorem ivs_len (l : List Int) : (ivs l).length = l.length := by simp [ivs]
/-- a list that is no part of the shop changes -/
theorem Rep.other {H H' : Hp} {st g : Addr} {y : Kqb4.Shop} {L : Loca} (r : Rep A H st y L) (kp : ∀ b o, H b = some o → b ≠ g → H' b = some o) (hf : ¬ Foot L g) (hb : L.bl ≠ g) (hg : ∃ xs, H g = some (.lst xs)) : Rep A H' st y L := by
  obtain ⟨xs, hg⟩ := hg
  have nf : ∀ {b : Addr}, Foot L b → b ≠ g := fun h e => hf (e ▸ h)
  refine ⟨?_, kp _ _ r.bl hb, kp _ _ r.cl (nf (.inr (.inr (.inl rfl)))), pair_keep (fun a ha x ⟨dx, fs, h, f⟩ => ⟨dx, fs, kp _ _ h (nf (.inl ha)), f⟩) r.cells, r.nd, kp _ _ r.pk (nf (.inr (.inl rfl))), fun p hp => ?_, r.all, r.knd, r.ind, r.lnd⟩
  · obtain ⟨ds, gs, hs, f⟩ := r.st
    exact ⟨ds, gs, kp _ _ hs (fun e => by rw [e, hg] at hs; cases hs), f⟩
  · obtain ⟨q, hq, ⟨dp, gp, hp1, f⟩, hl⟩ := r.packs p hp
    exact ⟨q, hq, ⟨dp, gp, kp _ _ hp1 (nf (.inr (.inr (.inr (.inl (List.mem_map.mpr ⟨p, hp, rfl⟩)))))), f⟩, kp _ _ hl (nf (.inr (.inr (.inr (.inr (List.mem_map.mpr ⟨p, hp, rfl⟩))))))⟩
def StAt (A : Ad) (H0 : Hp) (gv : Addr) (H : Hp) (v : V) : Option Kqb4.Shop → Prop
  | none => v = .non
  | some y => ∃ st L, v = .ref st ∧ Rep A H st y L ∧ Good y ∧ (∀ b, Foot L b → H0 b = none) ∧ L.bl ≠ gv
theorem StAt.other {H0 H H' : Hp} {gv : Addr} {v : V} {s : Option Kqb4.Shop} (h : StAt A H0 gv H v s) (kp : ∀ b o, H b = some o → b ≠ gv → H' b = some o) (h0 : ∃ o, H0 gv = some o) (hg : ∃ xs, H gv = some (.lst xs)) : StAt A H0 gv H' v s := by
  cases s with
  | none => exact h
  | some y =>
    obtain ⟨st, L, e, R, G, F, hb⟩ := h
    obtain ⟨o, h0⟩ := h0
    exact ⟨st, L, e, R.other kp (fun hf => by rw [F gv hf] at h0; cases h0) hb hg, G, F, hb⟩
theorem nat_list : ∀ {l : List Int}, (∀ x ∈ l, 0 ≤ x) → ∃ ns : List Nat, l = ns.map fun (n : Nat) => (n : Int)
  | [], _ => ⟨[], rfl⟩
  | x :: l, h => by
    obtain ⟨ns, e⟩ := nat_list (l := l) fun y hy => h y (by simp [hy])
    have hx := h x (by simp)
    exact ⟨x.toNat :: ns, by rw [List.map_cons, ← e]; congr 1; omega⟩
def spAns (K : PySem.W.Frag) : Sp := fun vs H Q _ => ∃ (a : Addr) (l : List Int), vs = [.ref a] ∧ SqL K H a (ivs l) ∧ PyKqb4.answers_asked l = true ∧ l.length ≤ 12500 ∧ (∀ x ∈ l, 0 ≤ x ∧ x ≤ 4294967295) ∧
  ∀ (H' : Hp) (p : Addr), H' p = some (.lst (ivs (PyKqb4.answers l))) → Q (.ref p) H'
theorem put_mem : ∀ {raw : List (List (List Int))} {c : List (List Int)}, c ∈ raw → ∀ x ∈ PyFlat.put1 c, x ∈ PyFlat.put raw
  | [], _, h, _, _ => by simp at h
  | d :: raw, c, h, x, hx => by
    show x ∈ PyFlat.put1 d ++ PyFlat.put raw
    rcases List.mem_cons.mp h with rfl | h
    · exact List.mem_append_left _ hx
    · exact List.mem_append_right _ (put_mem h x hx)
theorem step_none {c : Kqb4.Call} (h : ∀ l, c ≠ .start l) : Kqb4.step none c = (none, .num (-11)) := by
  cases c with
  | start l => exact absurd rfl (h l)
  | _ => rfl
theorem ok_answers (T : Txt K mg A) : FnOk P w K mg base CX0 8 A.f_answers A.fd_answers ["calls"] (spAns K) := by
  have G_Stock___init__ := ok_Stock___init__ (P := P) (w := w) (base := base) T
  have G_answer_call := ok_answer_call (P := P) (w := w) (base := base) T
  have G_bounds_as_told := ok_bounds_as_told (P := P) (w := w) (base := base) T
  have G_split_calls := ok_split_calls (P := P) (w := w) (base := base) T
  refine T.F_answers.ok sc_answers (fun vs H Q E h => ?_) (fun cdv B outer s H vs Q E hr h => ?_)
  · obtain ⟨a, l, rfl, _⟩ := h
    rfl
  · obtain ⟨a, l, rfl, ha, hask, hlen, hrg, k⟩ := h
    refine ⟨_, (pss_cons (ps_set (i := 1) sc_answers.nd rfl (by first | exact Or.inl rfl | exact Or.inr rfl) (pe_lst pa_nil))
      (pss_cons (ps_set (i := 2) sc_answers.nd rfl (by first | exact Or.inl rfl | exact Or.inr rfl) pe_non)
      (pss_cons (ps_for PassesOwn.never rfl (pi_listK (K := K) rfl (pe_call G_split_calls (hr.mono (by decide)) rfl T.m_split_calls T.F_split_calls.kp T.b_split_calls .nil pass0 (pa_cons (pv 0) pa_nil))) (pg_tupK (K := K) (n := 2) rfl rfl (pgs_cons (pg_name (i := 3) sc_answers.nd rfl (by first | exact Or.inl rfl | exact Or.inr rfl)) (pgs_cons (pg_name (i := 4) sc_answers.nd rfl (by first | exact Or.inl rfl | exact Or.inr rfl)) pgs_nil))) (pss_cons (ps_if (PW.pt (pw_and (pt_cmpR op_eq (pv 3) (pe_globI rfl T.m_START) (nomark _)) (pw_and1 (pt_truthK (K := K) rfl (pe_call G_bounds_as_told (hr.mono (by decide)) rfl T.m_bounds_as_told T.F_bounds_as_told.kp T.b_bounds_as_told .nil pass0 (pa_cons (pv 4) pa_nil)) (fun _ => rfl))))) (pss_cons (ps_set (i := 2) sc_answers.nd rfl (by first | exact Or.inl rfl | exact Or.inr rfl) (pe_make T.M_Stock G_Stock___init__ (hr.mono (by decide)) rfl T.m_Stock T.b_Stock___init__ .nil pass0 (pa_cons (pv 4) pa_nil)))
      (pss_one (ps_set (i := 5) sc_answers.nd rfl (by first | exact Or.inl rfl | exact Or.inr rfl) (pe_lst (pa_cons pe_int pa_nil))))) (pss_one (ps_if (pt_cmpR op_eq (pv 3) (pe_globI rfl T.m_START) (nomark _)) (pss_one (ps_set (i := 5) sc_answers.nd rfl (by first | exact Or.inl rfl | exact Or.inr rfl) (pe_lst (pa_cons (pe_globI rfl T.m_NOT_AS_TOLD) pa_nil)))) (pss_one (ps_if (pt_cmpR op_isN (pv 2) pe_non (nomark _)) (pss_one (ps_set (i := 5) sc_answers.nd rfl (by first | exact Or.inl rfl | exact Or.inr rfl) (pe_lst (pa_cons (pe_globI rfl T.m_NOT_STARTED) pa_nil)))) (pss_one (ps_set (i := 5) sc_answers.nd rfl (by first | exact Or.inl rfl | exact Or.inr rfl) (pe_call G_answer_call (hr.mono (by decide)) rfl T.m_answer_call T.F_answer_call.kp T.b_answer_call .nil pass0 (pa_cons (pv 2) (pa_cons (pv 3) (pa_cons (pv 4) pa_nil)))))))))))
      (pss_cons (ps_expr (pe_bmK (K := K) rfl PySem.F.plainAttrs_list PySem.F.slot_list_append PySem.F.type_list_append mt_append (pv 1) (pa_cons (pe_callB (len_seqK (K := K) rfl) (by rfl) T.b_len boot_len (pa_cons (pv 5) pa_nil)) pa_nil)))
      (pss_one (ps_expr (pe_bmK (K := K) rfl PySem.F.plainAttrs_list PySem.F.slot_list_extend PySem.F.type_list_extend mt_extend (pv 1) (pa_cons (pv 5) pa_nil)))))))
      (pss_one (ps_ret (pv 1)))))), ?_⟩
    -- what is asked
    obtain ⟨raw, hraw, hsmall, hshort, hans⟩ : ∃ raw, PyFlat.calls PyKqb4.shape l.length l = some raw ∧ Kqb4Neutral.small Kqb4Neutral.start (raw.map PyKqb4.whole) = true ∧ (PyKqb4.answers l).length ≤ 10000000 ∧ PyKqb4.answers l = PyFlat.told (PyFlat.played Kqb4Neutral.step Kqb4Neutral.start (raw.map PyKqb4.whole)) := by
      unfold PyKqb4.answers_asked at hask
      cases e : PyFlat.calls PyKqb4.shape l.length l with
      | none => rw [e] at hask; cases hask
      | some raw =>
        rw [e] at hask
        simp only [Bool.and_eq_true] at hask
        obtain ⟨⟨_, hs⟩, hsh⟩ := hask
        refine ⟨raw, rfl, ?_, of_decide_eq_true hsh, ?_⟩
        · unfold Kqb4Neutral.asked at hs
          simp only [Bool.and_eq_true] at hs
          exact hs.1.2
        · unfold PyKqb4.answers PyKqb4.calls
          rw [e]
    obtain ⟨hput, hokc⟩ := PyFlat.put_calls l.length l raw hraw
    have hform : ∀ c ∈ raw, CallForm c := fun c hc => form_of (hokc c hc)
    rw [whole_all hform] at hsmall hans
    refine ⟨Nat.zero_le _, fun gv hgv => ?_⟩
    have s1 : Same H (upd H gv (.lst [])) := (Same.refl _).laid hgv
    have hgv1 : upd H gv (.lst []) gv = some (.lst []) := upd_same
    generalize upd H gv (.lst []) = H1 at s1 hgv1 ⊢
    refine ⟨_, rfl, a, l, raw, rfl, s1.seq ha, hput, hform, hlen, fun H2 fo as s2 hfo hfol P2 => ?_⟩
    have hgv2 := s2 _ _ hgv1
    refine ⟨fo, rfl, ⟨_, SqL.of hfol⟩, ?_⟩
    have nfg : fo ≠ gv := fun e => by rw [e, hgv1] at hfo; cases hfo
    refine for_list (xs := as.map V.ref) (fun j σ H3 => ∃ sv v3 v4 v5, σ = [some (.ref a), some (.ref gv), some sv, v3, v4, v5] ∧ (∀ b o, H2 b = some o → b ≠ gv → H3 b = some o) ∧ H3 gv = some (.lst (ivs (PyFlat.told (PyFlat.played Kqb4Neutral.step Kqb4Neutral.start (raw.take j))))) ∧
        StAt A H2 gv H3 sv (after Kqb4Neutral.start (raw.take j)))
      ⟨_, _, _, _, rfl, fun b o e _ => e, hgv2, rfl⟩ (fun j σ H3 _ ⟨_, _, _, _, _, k3, _⟩ => SqL.of (k3 _ _ hfol nfg)) ?_ ?_
    · rintro j x σ H3 hx ⟨sv, v3, v4, v5, rfl, k3, g3, st3⟩
      obtain ⟨t, ht, rfl⟩ := refs_get hx
      obtain ⟨c, hcj, hl, ht2, hlfo, hl0, hl2⟩ := paired_get P2 ht
      have hcm := List.mem_of_getElem? hcj
      have hcf := hform c hcm
      have htg : t ≠ gv := fun e => by rw [e, hgv2] at ht2; cases ht2
      have hlg : hl ≠ gv := fun e => by rw [e, hgv1] at hl0; cases hl0
      have ht3 := k3 _ _ ht2 htg
      have hl3 := k3 _ _ hl2 hlg
      have hfew := small_at hsmall hcj
      have htl := told_le raw Kqb4Neutral.start (j + 1)
      rw [← hans] at htl
      rw [told_snoc hcj, List.length_append, List.length_cons] at htl
      refine ⟨t, _, rfl, SqT.of ht3, rfl, _, _, rfl, _, _, rfl, rfl, ?_⟩
      cases hcf with
      | start r =>
        obtain ⟨bs, hbs⟩ : ∃ bs : List Nat, r = bs.map fun (n : Nat) => (n : Int) := nat_list fun x hx => (hrg x (by rw [hput]; exact put_mem hcm x (by rw [put1_start]; simp [hx]))).1
        have hbn : r.map Kqb4Neutral.n = bs := by
          rw [hbs, List.map_map]
          conv => rhs; rw [← List.map_id bs]
          exact List.map_congr_left fun n _ => Int.toNat_natCast n
        have hcall : Kqb4Neutral.callOf [[0], r] = some (.start bs) := by rw [← hbn]; rfl
        have hl3' : H3 hl = some (.lst (nvs bs)) := by rw [hl3]; show some (HO.lst (ivs r)) = _; rw [hbs]; rfl
        refine ⟨_, rfl, rfl, _, rfl, _, rfl, hl, bs, rfl, SqL.of hl3', fun H4 s4 => ⟨_, rfl, ?_⟩⟩
        have k4 : ∀ b o, H2 b = some o → b ≠ gv → H4 b = some o := fun b o e hb => s4 _ _ (k3 b o e hb)
        have g4 := s4 _ _ g3
        cases hok : Kqb4.okBounds bs with
        | true =>
          refine ⟨_, rfl, fun st dst nst ndst nes => ⟨st, dst, hl, rfl, upd_same, fun H5 cl pk hst hcl hpk ncl npk k5 => ⟨rfl, ?_⟩⟩⟩
          have s5 : Same H4 H5 := Same.made nst ndst k5
          have fr : ∀ b, (upd (upd H4 dst (.own st)) st (.ins A.c_Stock dst [])) b = none → H4 b = none := fun b e => by
            cases q : H4 b with
            | none => rfl
            | some o =>
              rw [upd_ne (ne_of_none q nst), upd_ne (ne_of_none q ndst), q] at e
              cases e
          have f2 : ∀ b, H4 b = none → H2 b = none := fun b e => by
            cases q : H2 b with
            | none => rfl
            | some o =>
              by_cases eb : b = gv
              · rw [eb, g4] at e; cases e
              · rw [k4 b o q eb] at e; cases e
          refine ⟨(by show 1 ≤ sizeLine; decide), fun an han => ?_⟩
          have s6 : ∀ o, Same H5 (upd H5 an o) := fun o => (Same.refl _).laid han
          have g5 := s5 _ _ g4
          have hne : an ≠ gv := fun e => by rw [e, g5] at han; cases han
          have est : Kqb4Neutral.step (after Kqb4Neutral.start (raw.take j)) [[0], r] = (some ⟨bs, [], []⟩, [0]) := by
            unfold Kqb4Neutral.step
            rw [hcall]
            simp only [Kqb4.step, hok]
            rfl
          have eans : (Kqb4Neutral.step (after Kqb4Neutral.start (raw.take j)) [[0], r]).2 = [0] := by rw [est]
          rw [eans] at htl
          have hl5 := s5 _ _ (s4 _ _ hl3')
          have R5 : Rep A H5 st ⟨bs, [], []⟩ ⟨hl, cl, pk, [], []⟩ := by
            refine ⟨let ⟨fs, h1, h2⟩ := hst; ⟨dst, fs, h1, h2⟩, hl5, hcl, .nil, List.nodup_nil, hpk, fun p hp => ?_, fun n q hq => ?_, List.nodup_nil, List.nodup_nil, ?_⟩
            · cases hp
            · simp at hq
            · show [hl, cl].Nodup
              have : hl ≠ cl := fun e => by
                have := fr cl ncl
                rw [← e, s4 _ _ hl3'] at this
                cases this
              simp [this]
          have G5 : Good ⟨bs, [], []⟩ := good_start (l := bs) (by simp only [Kqb4.step, hok]; rfl)
          have F5 : ∀ b, Foot ⟨hl, cl, pk, [], []⟩ b → H2 b = none := fun b h => by
            rcases h with h | h | h | h | h
            · cases h
            · rw [h]; exact f2 _ (fr pk npk)
            · rw [h]; exact f2 _ (fr cl ncl)
            · cases h
            · cases h
          have st4 : StAt A H2 gv (upd H5 an (.lst [V.int 0])) (.ref st) (some ⟨bs, [], []⟩) := ⟨st, _, rfl, R5.same (s6 _), G5, F5, hlg⟩
          have ha4 : upd H5 an (.lst [V.int 0]) an = some (.lst (ivs [0])) := upd_same
          have k4 : ∀ b o, H2 b = some o → b ≠ gv → upd H5 an (.lst [V.int 0]) b = some o := fun b o e hb => s6 _ _ _ (s5 _ _ (k4 b o e hb))
          have g4 := s6 (.lst [V.int 0]) _ _ g5
          generalize upd H5 an (.lst [V.int 0]) = H6 at ha4 k4 g4 st4 ⊢
          refine ⟨_, rfl, .inl ⟨rfl, _, SqL.of g4⟩, _, rfl, an, _, rfl, .inl (SqL.of ha4), gv, _, _, rfl, rfl, g4, ?_, ?_⟩
          · rw [ivs_len, sizeLine_eq]
            omega
          refine ⟨_, rfl, .inl ⟨rfl, _, SqL.of upd_same⟩, _, rfl, gv, an, _, _, rfl, rfl, upd_same, by rw [upd_ne hne]; exact ha4, ?_, ⟨_, _, _, _, rfl, fun b o e hb => by rw [upd_ne hb, upd_ne hb]; exact k4 b o e hb, ?_, ?_⟩⟩
          · rw [List.length_append, List.length_singleton, ivs_len, ivs_len, sizeLine_eq]
            omega
          · rw [upd_same, told_snoc hcj, eans, ivs_len]
            unfold ivs
            simp
          · rw [after_snoc hcj]
            rw [est]
            exact st4.other (fun b o e hb => by rw [upd_ne hb, upd_ne hb]; exact e) ⟨_, hgv2⟩ ⟨_, g4⟩
        | false =>
          refine ⟨_, rfl, rfl, _, rfl, (by show 1 ≤ sizeLine; decide), fun an han => ?_⟩
          have s5 : ∀ o, Same H4 (upd H4 an o) := fun o => (Same.refl _).laid han
          have hne : an ≠ gv := fun e => by rw [e, g4] at han; cases han
          have est : Kqb4Neutral.step (after Kqb4Neutral.start (raw.take j)) [[0], r] = (after Kqb4Neutral.start (raw.take j), [-22]) := by
            unfold Kqb4Neutral.step
            rw [hcall]
            simp only [Kqb4.step, hok, if_true]
            rfl
          have eans : (Kqb4Neutral.step (after Kqb4Neutral.start (raw.take j)) [[0], r]).2 = [-22] := by rw [est]
          rw [eans] at htl
          have ha4 : upd H4 an (.lst [V.int (-22)]) an = some (.lst (ivs [-22])) := upd_same
          have k4 : ∀ b o, H2 b = some o → b ≠ gv → upd H4 an (.lst [V.int (-22)]) b = some o := fun b o e hb => s5 _ _ _ (k4 b o e hb)
          have g4 := s5 (.lst [V.int (-22)]) _ _ g4
          have st4 : StAt A H2 gv (upd H4 an (.lst [V.int (-22)])) sv (after Kqb4Neutral.start (raw.take j)) := st3.other (fun b o e _ => s5 _ _ _ (s4 _ _ e)) ⟨_, hgv2⟩ ⟨_, g3⟩
          generalize upd H4 an (.lst [V.int (-22)]) = H5 at ha4 k4 g4 st4 ⊢
          refine ⟨_, rfl, .inl ⟨rfl, _, SqL.of g4⟩, _, rfl, an, _, rfl, .inl (SqL.of ha4), gv, _, _, rfl, rfl, g4, ?_, ?_⟩
          · rw [ivs_len, sizeLine_eq]
            omega
          refine ⟨_, rfl, .inl ⟨rfl, _, SqL.of upd_same⟩, _, rfl, gv, an, _, _, rfl, rfl, upd_same, by rw [upd_ne hne]; exact ha4, ?_, ⟨_, _, _, _, rfl, fun b o e hb => by rw [upd_ne hb, upd_ne hb]; exact k4 b o e hb, ?_, ?_⟩⟩
          · rw [List.length_append, List.length_singleton, ivs_len, ivs_len, sizeLine_eq]
            omega
          · rw [upd_same, told_snoc hcj, eans, ivs_len]
            unfold ivs
            simp
          · rw [after_snoc hcj]
            rw [est]
            exact st4.other (fun b o e hb => by rw [upd_ne hb, upd_ne hb]; exact e) ⟨_, hgv2⟩ ⟨_, g4⟩
      | plain p b h0 hk =>
        obtain ⟨ns, hns⟩ : ∃ ns : List Nat, b = ns.map fun (n : Nat) => (n : Int) := nat_list fun x hx => (hrg x (by rw [hput]; exact put_mem hcm x (by rw [put1_plain]; simp [hx]))).1
        have hn32 : ∀ n ∈ ns, n < 4294967296 := fun n hn => by
          have := (hrg (n : Int) (by rw [hput]; exact put_mem hcm _ (by rw [put1_plain, hns]; exact List.mem_cons_of_mem _ (List.mem_map.mpr ⟨n, hn, rfl⟩)))).2
          omega
        have hp0 : 0 ≤ p := (hrg p (by rw [hput]; exact put_mem hcm _ (by rw [put1_plain]; simp))).1
        have hp10 : p ≤ 20 := handed_20 h0 hk
        obtain ⟨cc, hcc, _⟩ := callOf_plain h0 hk
        have hcN : callN p ns = some cc := by unfold callN; rw [← hns]; exact hcc
        have hl3' : H3 hl = some (.lst (ns.map nv)) := by
          rw [hl3]
          show some (HO.lst (ivs b)) = _
          rw [hns]
          unfold ivs
          rw [List.map_map]
          rfl
        have hne0 : decide (V.int p = V.int 0) = false := decide_eq_false fun e => h0 (by injection e)
        have hns3 : ns.length ≤ 3 := by
          have : b.length = ns.length := by rw [hns, List.length_map]
          rw [← this]
          exact handed_le h0 hk
        refine ⟨_, rfl, rfl, _, rfl, ?_⟩
        show if decide (V.int p = V.int 0) = true then _ else _
        rw [hne0]
        refine ⟨_, rfl, rfl, _, rfl, ?_⟩
        show if decide (V.int p = V.int 0) = true then _ else _
        rw [hne0]
        cases hS : after Kqb4Neutral.start (raw.take j) with
        | none =>
          rw [hS] at st3
          have esv : sv = .non := st3
          subst esv
          refine ⟨_, rfl, rfl, _, rfl, (by show 1 ≤ sizeLine; decide), fun an han => ?_⟩
          have s5 : ∀ o, Same H3 (upd H3 an o) := fun o => (Same.refl _).laid han
          have hne : an ≠ gv := fun e => by rw [e, g3] at han; cases han
          have est : Kqb4Neutral.step (after Kqb4Neutral.start (raw.take j)) [p :: b] = (none, [-11]) := by
            rw [hS]
            unfold Kqb4Neutral.step
            rw [hcc]
            simp only
            rw [step_none (plain_nostart h0 hk hcc)]
            rfl
          have eans : (Kqb4Neutral.step (after Kqb4Neutral.start (raw.take j)) [p :: b]).2 = [-11] := by rw [est]
          rw [eans] at htl
          have ha4 : upd H3 an (.lst [V.int (-11)]) an = some (.lst (ivs [-11])) := upd_same
          have k4 : ∀ b o, H2 b = some o → b ≠ gv → upd H3 an (.lst [V.int (-11)]) b = some o := fun b o e hb => s5 _ _ _ (k3 b o e hb)
          have g4 := s5 (.lst [V.int (-11)]) _ _ g3
          generalize upd H3 an (.lst [V.int (-11)]) = H5 at ha4 k4 g4 ⊢
          refine ⟨_, rfl, .inl ⟨rfl, _, SqL.of g4⟩, _, rfl, an, _, rfl, .inl (SqL.of ha4), gv, _, _, rfl, rfl, g4, ?_, ?_⟩
          · rw [ivs_len, sizeLine_eq]
            omega
          refine ⟨_, rfl, .inl ⟨rfl, _, SqL.of upd_same⟩, _, rfl, gv, an, _, _, rfl, rfl, upd_same, by rw [upd_ne hne]; exact ha4, ?_, ⟨_, _, _, _, rfl, fun b o e hb => by rw [upd_ne hb, upd_ne hb]; exact k4 b o e hb, ?_, ?_⟩⟩
          · rw [List.length_append, List.length_singleton, ivs_len, ivs_len, sizeLine_eq]
            omega
          · rw [upd_same, told_snoc hcj, eans, ivs_len]
            unfold ivs
            simp
          · rw [after_snoc hcj]
            rw [est]
            rfl
        | some y =>
          rw [hS] at st3
          obtain ⟨st, L, rfl, R, G, F, hbg⟩ := st3
          have hfew : fewC y cc := few_fewC h0 hk hcc (by rw [hS] at hfew; exact hfew)
          refine ⟨_, rfl, rfl, _, rfl, ?_⟩
          refine ⟨_, rfl, _, rfl, _, rfl, st, hl, y, L, p, ns, cc, rfl, by omega, hp10, hl3', hns3, hcN, hn32, R, G, hfew, fun H4 L4 an y' hy' R4 fr4 ft4 eb4 nan han => ?_⟩
          have est : Kqb4Neutral.step (after Kqb4Neutral.start (raw.take j)) [p :: b] = (some y', Kqb4Neutral.tell (Kqb4.step (some y) cc).2) := by
            rw [hS]
            unfold Kqb4Neutral.step
            rw [hcc]
            simp only
            rw [hy']
          have eans : (Kqb4Neutral.step (after Kqb4Neutral.start (raw.take j)) [p :: b]).2 = Kqb4Neutral.tell (Kqb4.step (some y) cc).2 := by rw [est]
          rw [eans] at htl
          have nfg : ¬ Foot L gv := fun hf => by rw [F gv hf] at hgv2; cases hgv2
          have hne : an ≠ gv := fun e => by rw [e, g3] at nan; cases nan
          have ha4 : H4 an = some (.lst (ivs (Kqb4Neutral.tell (Kqb4.step (some y) cc).2))) := han
          have k4 : ∀ b o, H2 b = some o → b ≠ gv → H4 b = some o := fun b o e hb => fr4 b o (k3 b o e hb) fun hf => by rw [F b hf] at e; cases e
          have g4 := fr4 _ _ g3 nfg
          have hbl : L4.bl ≠ gv := by rw [eb4]; exact hbg
          have F4 : ∀ b, Foot L4 b → H2 b = none := fun b h => by
            rcases ft4 b h with h | h
            · exact F b h
            · cases q : H2 b with
              | none => rfl
              | some o =>
                by_cases eb : b = gv
                · rw [eb, g3] at h; cases h
                · rw [k3 b o q eb] at h; cases h
          have st4 : StAt A H2 gv H4 (.ref st) (some y') := ⟨st, L4, rfl, R4, good_step G hy', F4, hbl⟩
          refine ⟨_, rfl, .inl ⟨rfl, _, SqL.of g4⟩, _, rfl, an, _, rfl, .inl (SqL.of ha4), gv, _, _, rfl, rfl, g4, ?_, ?_⟩
          · rw [ivs_len, sizeLine_eq]
            omega
          refine ⟨_, rfl, .inl ⟨rfl, _, SqL.of upd_same⟩, _, rfl, gv, an, _, _, rfl, rfl, upd_same, by rw [upd_ne hne]; exact ha4, ?_, ⟨_, _, _, _, rfl, fun b o e hb => by rw [upd_ne hb, upd_ne hb]; exact k4 b o e hb, ?_, ?_⟩⟩
          · rw [List.length_append, List.length_singleton, ivs_len, ivs_len, sizeLine_eq]
            omega
          · rw [upd_same, told_snoc hcj, eans, ivs_len]
            unfold ivs
            simp
          · rw [after_snoc hcj]
            rw [est]
            exact st4.other (fun b o e hb => by rw [upd_ne hb, upd_ne hb]; exact e) ⟨_, hgv2⟩ ⟨_, g4⟩
    · rintro σ H3 ⟨sv, v3, v4, v5, rfl, k3, g3, st3⟩
      rw [List.length_map, Paired.length P2, List.take_length, ← hans] at g3
      exact ⟨_, rfl, k _ _ g3⟩
end
end CP
end

section
set_option Elab.async false
set_option linter.all false
set_option maxRecDepth 100000
set_option maxHeartbeats 4000000
namespace CP
open PySem PySem.Spec PyProof.Rows L2
theorem txt_mk {K : PySem.W.Frag} {h : Heap} {mg : Str → Option Value} (X : K.In h) (G : h.Ns mainGlobals mg)
    {c_Cell : Addr}
    {c_Pack : Addr}
    {c_Stock : Addr}
    {f_0 : Addr} {od_0 an_0 : Option Addr} {sl_0 : Array (Option Value)} {oc_0 kV_0 dc_0 pm_0 cd_0 ct_0 : Value}
    {f_1 : Addr} {od_1 an_1 : Option Addr} {sl_1 : Array (Option Value)} {oc_1 kV_1 dc_1 pm_1 cd_1 ct_1 : Value}
    {f_2 : Addr} {od_2 an_2 : Option Addr} {sl_2 : Array (Option Value)} {oc_2 kV_2 dc_2 pm_2 cd_2 ct_2 : Value}
    {f_3 : Addr} {od_3 an_3 : Option Addr} {sl_3 : Array (Option Value)} {oc_3 kV_3 dc_3 pm_3 cd_3 ct_3 : Value}
    {f_4 : Addr} {od_4 an_4 : Option Addr} {sl_4 : Array (Option Value)} {oc_4 kV_4 dc_4 pm_4 cd_4 ct_4 : Value}
    {f_5 : Addr} {od_5 an_5 : Option Addr} {sl_5 : Array (Option Value)} {oc_5 kV_5 dc_5 pm_5 cd_5 ct_5 : Value}
    {f_6 : Addr} {od_6 an_6 : Option Addr} {sl_6 : Array (Option Value)} {oc_6 kV_6 dc_6 pm_6 cd_6 ct_6 : Value}
    {f_7 : Addr} {od_7 an_7 : Option Addr} {sl_7 : Array (Option Value)} {oc_7 kV_7 dc_7 pm_7 cd_7 ct_7 : Value}
    {f_8 : Addr} {od_8 an_8 : Option Addr} {sl_8 : Array (Option Value)} {oc_8 kV_8 dc_8 pm_8 cd_8 ct_8 : Value}
    {f_9 : Addr} {od_9 an_9 : Option Addr} {sl_9 : Array (Option Value)} {oc_9 kV_9 dc_9 pm_9 cd_9 ct_9 : Value}
    {f_10 : Addr} {od_10 an_10 : Option Addr} {sl_10 : Array (Option Value)} {oc_10 kV_10 dc_10 pm_10 cd_10 ct_10 : Value}
    {f_11 : Addr} {od_11 an_11 : Option Addr} {sl_11 : Array (Option Value)} {oc_11 kV_11 dc_11 pm_11 cd_11 ct_11 : Value}
    {f_12 : Addr} {od_12 an_12 : Option Addr} {sl_12 : Array (Option Value)} {oc_12 kV_12 dc_12 pm_12 cd_12 ct_12 : Value}
    {f_13 : Addr} {od_13 an_13 : Option Addr} {sl_13 : Array (Option Value)} {oc_13 kV_13 dc_13 pm_13 cd_13 ct_13 : Value}
    {f_14 : Addr} {od_14 an_14 : Option Addr} {sl_14 : Array (Option Value)} {oc_14 kV_14 dc_14 pm_14 cd_14 ct_14 : Value}
    {f_15 : Addr} {od_15 an_15 : Option Addr} {sl_15 : Array (Option Value)} {oc_15 kV_15 dc_15 pm_15 cd_15 ct_15 : Value}
    {f_16 : Addr} {od_16 an_16 : Option Addr} {sl_16 : Array (Option Value)} {oc_16 kV_16 dc_16 pm_16 cd_16 ct_16 : Value}
    {f_17 : Addr} {od_17 an_17 : Option Addr} {sl_17 : Array (Option Value)} {oc_17 kV_17 dc_17 pm_17 cd_17 ct_17 : Value}
    {f_18 : Addr} {od_18 an_18 : Option Addr} {sl_18 : Array (Option Value)} {oc_18 kV_18 dc_18 pm_18 cd_18 ct_18 : Value}
    {f_19 : Addr} {od_19 an_19 : Option Addr} {sl_19 : Array (Option Value)} {oc_19 kV_19 dc_19 pm_19 cd_19 ct_19 : Value}
    {f_20 : Addr} {od_20 an_20 : Option Addr} {sl_20 : Array (Option Value)} {oc_20 kV_20 dc_20 pm_20 cd_20 ct_20 : Value}
    {f_21 : Addr} {od_21 an_21 : Option Addr} {sl_21 : Array (Option Value)} {oc_21 kV_21 dc_21 pm_21 cd_21 ct_21 : Value}
    {f_22 : Addr} {od_22 an_22 : Option Addr} {sl_22 : Array (Option Value)} {oc_22 kV_22 dc_22 pm_22 cd_22 ct_22 : Value}
    {f_23 : Addr} {od_23 an_23 : Option Addr} {sl_23 : Array (Option Value)} {oc_23 kV_23 dc_23 pm_23 cd_23 ct_23 : Value}
    {f_24 : Addr} {od_24 an_24 : Option Addr} {sl_24 : Array (Option Value)} {oc_24 kV_24 dc_24 pm_24 cd_24 ct_24 : Value}
    {f_25 : Addr} {od_25 an_25 : Option Addr} {sl_25 : Array (Option Value)} {oc_25 kV_25 dc_25 pm_25 cd_25 ct_25 : Value}
    {f_26 : Addr} {od_26 an_26 : Option Addr} {sl_26 : Array (Option Value)} {oc_26 kV_26 dc_26 pm_26 cd_26 ct_26 : Value}
    {f_27 : Addr} {od_27 an_27 : Option Addr} {sl_27 : Array (Option Value)} {oc_27 kV_27 dc_27 pm_27 cd_27 ct_27 : Value}
    {f_28 : Addr} {od_28 an_28 : Option Addr} {sl_28 : Array (Option Value)} {oc_28 kV_28 dc_28 pm_28 cd_28 ct_28 : Value}
    {f_29 : Addr} {od_29 an_29 : Option Addr} {sl_29 : Array (Option Value)} {oc_29 kV_29 dc_29 pm_29 cd_29 ct_29 : Value}
    {f_30 : Addr} {od_30 an_30 : Option Addr} {sl_30 : Array (Option Value)} {oc_30 kV_30 dc_30 pm_30 cd_30 ct_30 : Value}
    {f_31 : Addr} {od_31 an_31 : Option Addr} {sl_31 : Array (Option Value)} {oc_31 kV_31 dc_31 pm_31 cd_31 ct_31 : Value}
    {f_32 : Addr} {od_32 an_32 : Option Addr} {sl_32 : Array (Option Value)} {oc_32 kV_32 dc_32 pm_32 cd_32 ct_32 : Value}
    {f_33 : Addr} {od_33 an_33 : Option Addr} {sl_33 : Array (Option Value)} {oc_33 kV_33 dc_33 pm_33 cd_33 ct_33 : Value}
    {f_34 : Addr} {od_34 an_34 : Option Addr} {sl_34 : Array (Option Value)} {oc_34 kV_34 dc_34 pm_34 cd_34 ct_34 : Value}
    {f_35 : Addr} {od_35 an_35 : Option Addr} {sl_35 : Array (Option Value)} {oc_35 kV_35 dc_35 pm_35 cd_35 ct_35 : Value}
    {f_36 : Addr} {od_36 an_36 : Option Addr} {sl_36 : Array (Option Value)} {oc_36 kV_36 dc_36 pm_36 cd_36 ct_36 : Value}
    {f_37 : Addr} {od_37 an_37 : Option Addr} {sl_37 : Array (Option Value)} {oc_37 kV_37 dc_37 pm_37 cd_37 ct_37 : Value}
    {f_38 : Addr} {od_38 an_38 : Option Addr} {sl_38 : Array (Option Value)} {oc_38 kV_38 dc_38 pm_38 cd_38 ct_38 : Value}
    {f_39 : Addr} {od_39 an_39 : Option Addr} {sl_39 : Array (Option Value)} {oc_39 kV_39 dc_39 pm_39 cd_39 ct_39 : Value}
    {f_40 : Addr} {od_40 an_40 : Option Addr} {sl_40 : Array (Option Value)} {oc_40 kV_40 dc_40 pm_40 cd_40 ct_40 : Value}
    {f_41 : Addr} {od_41 an_41 : Option Addr} {sl_41 : Array (Option Value)} {oc_41 kV_41 dc_41 pm_41 cd_41 ct_41 : Value}
    {f_42 : Addr} {od_42 an_42 : Option Addr} {sl_42 : Array (Option Value)} {oc_42 kV_42 dc_42 pm_42 cd_42 ct_42 : Value}
    {f_43 : Addr} {od_43 an_43 : Option Addr} {sl_43 : Array (Option Value)} {oc_43 kV_43 dc_43 pm_43 cd_43 ct_43 : Value}
    {f_44 : Addr} {od_44 an_44 : Option Addr} {sl_44 : Array (Option Value)} {oc_44 kV_44 dc_44 pm_44 cd_44 ct_44 : Value}
    {f_45 : Addr} {od_45 an_45 : Option Addr} {sl_45 : Array (Option Value)} {oc_45 kV_45 dc_45 pm_45 cd_45 ct_45 : Value}
    {f_46 : Addr} {od_46 an_46 : Option Addr} {sl_46 : Array (Option Value)} {oc_46 kV_46 dc_46 pm_46 cd_46 ct_46 : Value}
    {f_47 : Addr} {od_47 an_47 : Option Addr} {sl_47 : Array (Option Value)} {oc_47 kV_47 dc_47 pm_47 cd_47 ct_47 : Value}
    {f_48 : Addr} {od_48 an_48 : Option Addr} {sl_48 : Array (Option Value)} {oc_48 kV_48 dc_48 pm_48 cd_48 ct_48 : Value}
    {f_49 : Addr} {od_49 an_49 : Option Addr} {sl_49 : Array (Option Value)} {oc_49 kV_49 dc_49 pm_49 cd_49 ct_49 : Value}
    {f_50 : Addr} {od_50 an_50 : Option Addr} {sl_50 : Array (Option Value)} {oc_50 kV_50 dc_50 pm_50 cd_50 ct_50 : Value}
    {f_51 : Addr} {od_51 an_51 : Option Addr} {sl_51 : Array (Option Value)} {oc_51 kV_51 dc_51 pm_51 cd_51 ct_51 : Value}
    {f_52 : Addr} {od_52 an_52 : Option Addr} {sl_52 : Array (Option Value)} {oc_52 kV_52 dc_52 pm_52 cd_52 ct_52 : Value}
    {f_53 : Addr} {od_53 an_53 : Option Addr} {sl_53 : Array (Option Value)} {oc_53 kV_53 dc_53 pm_53 cd_53 ct_53 : Value}
    {f_54 : Addr} {od_54 an_54 : Option Addr} {sl_54 : Array (Option Value)} {oc_54 kV_54 dc_54 pm_54 cd_54 ct_54 : Value}
    {f_55 : Addr} {od_55 an_55 : Option Addr} {sl_55 : Array (Option Value)} {oc_55 kV_55 dc_55 pm_55 cd_55 ct_55 : Value}
    {tk_HANDED_0 tv_HANDED_0 : Tok}
    {tk_HANDED_1 tv_HANDED_1 : Tok}
    {tk_HANDED_2 tv_HANDED_2 : Tok}
    {tk_HANDED_3 tv_HANDED_3 : Tok}
    {tk_HANDED_4 tv_HANDED_4 : Tok}
    {tk_HANDED_5 tv_HANDED_5 : Tok}
    {tk_HANDED_6 tv_HANDED_6 : Tok}
    {tk_HANDED_7 tv_HANDED_7 : Tok}
    {tk_HANDED_8 tv_HANDED_8 : Tok}
    {tk_HANDED_9 tv_HANDED_9 : Tok}
    {tk_HANDED_10 tv_HANDED_10 : Tok}
    {tk_HANDED_11 tv_HANDED_11 : Tok}
    {tk_HANDED_12 tv_HANDED_12 : Tok}
    {tk_HANDED_13 tv_HANDED_13 : Tok}
    {tk_HANDED_14 tv_HANDED_14 : Tok}
    {tk_HANDED_15 tv_HANDED_15 : Tok}
    {tk_HANDED_16 tv_HANDED_16 : Tok}
    {tk_HANDED_17 tv_HANDED_17 : Tok}
    {tk_HANDED_18 tv_HANDED_18 : Tok}
    {tk_HANDED_19 tv_HANDED_19 : Tok}
    {d_HANDED : Addr} {ep_HANDED : Nat}
    {tk_ACTIONS_0 : Tok}
    {tk_ACTIONS_1 : Tok}
    {tk_ACTIONS_2 : Tok}
    {tk_ACTIONS_3 : Tok}
    {tk_ACTIONS_4 : Tok}
    {tk_ACTIONS_5 : Tok}
    {tk_ACTIONS_6 : Tok}
    {tk_ACTIONS_7 : Tok}
    {tk_ACTIONS_8 : Tok}
    {tk_ACTIONS_9 : Tok}
    {tk_ACTIONS_10 : Tok}
    {tk_ACTIONS_11 : Tok}
    {tk_ACTIONS_12 : Tok}
    {tk_ACTIONS_13 : Tok}
    {tk_ACTIONS_14 : Tok}
    {tk_ACTIONS_15 : Tok}
    {tk_ACTIONS_16 : Tok}
    {tk_ACTIONS_17 : Tok}
    {tk_ACTIONS_18 : Tok}
    {tk_ACTIONS_19 : Tok}
    {d_ACTIONS : Addr} {ep_ACTIONS : Nat}
    {t_MOST_BOUNDS : Tok}
    {t_MOST_CELLS : Tok}
    {t_MOST_HELD : Tok}
    {t_MOST_RESISTED : Tok}
    {t_MOST_GROUPS : Tok}
    {t_MOST_IN_GROUP : Tok}
    {t_MOST_DEALT : Tok}
    {t_NO_SUCH : Tok}
    {t_NOT_PACKED : Tok}
    {t_NOT_STARTED : Tok}
    {t_TOO_FEW : Tok}
    {t_NOT_LOOSE : Tok}
    {t_NOT_AS_TOLD : Tok}
    {t_FULL : Tok}
    {t_NO_BETTER : Tok}
    {t_START : Tok}
    (a_Cell : PySem.W.nsIn K mainGlobals "Cell" = some (some (.ref c_Cell)))
    (a_Pack : PySem.W.nsIn K mainGlobals "Pack" = some (some (.ref c_Pack)))
    (a_Stock : PySem.W.nsIn K mainGlobals "Stock" = some (some (.ref c_Stock)))
    (a_0 : PySem.W.nsIn K mainGlobals "group_totals" = some (some (.ref f_0)))
    (l_0 : K.lookup f_0 = some ⟨oc_0, od_0, .func (PySem.W.fnOf "group_totals" "group_totals" (defArgs s_group_totals) (defBody s_group_totals) (defScope s_group_totals) .none kV_0 dc_0 pm_0 an_0 cd_0 ct_0), sl_0⟩)
    (c_0 : PySem.W.codeIn K cd_0 "group_totals" = true)
    (k_0 : PySem.W.keepIn K (.ref f_0) = true)
    (a_1 : PySem.W.nsIn K mainGlobals "strength_of" = some (some (.ref f_1)))
    (l_1 : K.lookup f_1 = some ⟨oc_1, od_1, .func (PySem.W.fnOf "strength_of" "strength_of" (defArgs s_strength_of) (defBody s_strength_of) (defScope s_strength_of) .none kV_1 dc_1 pm_1 an_1 cd_1 ct_1), sl_1⟩)
    (c_1 : PySem.W.codeIn K cd_1 "strength_of" = true)
    (k_1 : PySem.W.keepIn K (.ref f_1) = true)
    (a_2 : PySem.W.nsIn K mainGlobals "spread_of" = some (some (.ref f_2)))
    (l_2 : K.lookup f_2 = some ⟨oc_2, od_2, .func (PySem.W.fnOf "spread_of" "spread_of" (defArgs s_spread_of) (defBody s_spread_of) (defScope s_spread_of) .none kV_2 dc_2 pm_2 an_2 cd_2 ct_2), sl_2⟩)
    (c_2 : PySem.W.codeIn K cd_2 "spread_of" = true)
    (k_2 : PySem.W.keepIn K (.ref f_2) = true)
    (a_3 : PySem.W.nsIn K mainGlobals "may_follow" = some (some (.ref f_3)))
    (l_3 : K.lookup f_3 = some ⟨oc_3, od_3, .func (PySem.W.fnOf "may_follow" "may_follow" (defArgs s_may_follow) (defBody s_may_follow) (defScope s_may_follow) .none kV_3 dc_3 pm_3 an_3 cd_3 ct_3), sl_3⟩)
    (c_3 : PySem.W.codeIn K cd_3 "may_follow" = true)
    (k_3 : PySem.W.keepIn K (.ref f_3) = true)
    (a_4 : PySem.W.nsIn K mainGlobals "all_dealings" = some (some (.ref f_4)))
    (l_4 : K.lookup f_4 = some ⟨oc_4, od_4, .func (PySem.W.fnOf "all_dealings" "all_dealings" (defArgs s_all_dealings) (defBody s_all_dealings) (defScope s_all_dealings) .none kV_4 dc_4 pm_4 an_4 cd_4 ct_4), sl_4⟩)
    (c_4 : PySem.W.codeIn K cd_4 "all_dealings" = true)
    (k_4 : PySem.W.keepIn K (.ref f_4) = true)
    (a_5 : PySem.W.nsIn K mainGlobals "best_dealing" = some (some (.ref f_5)))
    (l_5 : K.lookup f_5 = some ⟨oc_5, od_5, .func (PySem.W.fnOf "best_dealing" "best_dealing" (defArgs s_best_dealing) (defBody s_best_dealing) (defScope s_best_dealing) .none kV_5 dc_5 pm_5 an_5 cd_5 ct_5), sl_5⟩)
    (c_5 : PySem.W.codeIn K cd_5 "best_dealing" = true)
    (k_5 : PySem.W.keepIn K (.ref f_5) = true)
    (a_6 : PySem.W.nsIn K mainGlobals "strength_by" = some (some (.ref f_6)))
    (l_6 : K.lookup f_6 = some ⟨oc_6, od_6, .func (PySem.W.fnOf "strength_by" "strength_by" (defArgs s_strength_by) (defBody s_strength_by) (defScope s_strength_by) .none kV_6 dc_6 pm_6 an_6 cd_6 ct_6), sl_6⟩)
    (c_6 : PySem.W.codeIn K cd_6 "strength_by" = true)
    (k_6 : PySem.W.keepIn K (.ref f_6) = true)
    (a_7 : PySem.W.nsIn K mainGlobals "best_exchange" = some (some (.ref f_7)))
    (l_7 : K.lookup f_7 = some ⟨oc_7, od_7, .func (PySem.W.fnOf "best_exchange" "best_exchange" (defArgs s_best_exchange) (defBody s_best_exchange) (defScope s_best_exchange) .none kV_7 dc_7 pm_7 an_7 cd_7 ct_7), sl_7⟩)
    (c_7 : PySem.W.codeIn K cd_7 "best_exchange" = true)
    (k_7 : PySem.W.keepIn K (.ref f_7) = true)
    (a_8 : PySem.W.nsIn K mainGlobals "nearest_two" = some (some (.ref f_8)))
    (l_8 : K.lookup f_8 = some ⟨oc_8, od_8, .func (PySem.W.fnOf "nearest_two" "nearest_two" (defArgs s_nearest_two) (defBody s_nearest_two) (defScope s_nearest_two) .none kV_8 dc_8 pm_8 an_8 cd_8 ct_8), sl_8⟩)
    (c_8 : PySem.W.codeIn K cd_8 "nearest_two" = true)
    (k_8 : PySem.W.keepIn K (.ref f_8) = true)
    (a_9 : PySem.W.nsIn K mainGlobals "common_divisor" = some (some (.ref f_9)))
    (l_9 : K.lookup f_9 = some ⟨oc_9, od_9, .func (PySem.W.fnOf "common_divisor" "common_divisor" (defArgs s_common_divisor) (defBody s_common_divisor) (defScope s_common_divisor) .none kV_9 dc_9 pm_9 an_9 cd_9 ct_9), sl_9⟩)
    (c_9 : PySem.W.codeIn K cd_9 "common_divisor" = true)
    (k_9 : PySem.W.keepIn K (.ref f_9) = true)
    (a_10 : PySem.W.nsIn K mainGlobals "lowest_terms" = some (some (.ref f_10)))
    (l_10 : K.lookup f_10 = some ⟨oc_10, od_10, .func (PySem.W.fnOf "lowest_terms" "lowest_terms" (defArgs s_lowest_terms) (defBody s_lowest_terms) (defScope s_lowest_terms) .none kV_10 dc_10 pm_10 an_10 cd_10 ct_10), sl_10⟩)
    (c_10 : PySem.W.codeIn K cd_10 "lowest_terms" = true)
    (k_10 : PySem.W.keepIn K (.ref f_10) = true)
    (a_11 : PySem.W.nsIn K mainGlobals "add_fractions" = some (some (.ref f_11)))
    (l_11 : K.lookup f_11 = some ⟨oc_11, od_11, .func (PySem.W.fnOf "add_fractions" "add_fractions" (defArgs s_add_fractions) (defBody s_add_fractions) (defScope s_add_fractions) .none kV_11 dc_11 pm_11 an_11 cd_11 ct_11), sl_11⟩)
    (c_11 : PySem.W.codeIn K cd_11 "add_fractions" = true)
    (k_11 : PySem.W.keepIn K (.ref f_11) = true)
    (a_12 : PySem.W.nsIn K mainGlobals "side_by_side" = some (some (.ref f_12)))
    (l_12 : K.lookup f_12 = some ⟨oc_12, od_12, .func (PySem.W.fnOf "side_by_side" "side_by_side" (defArgs s_side_by_side) (defBody s_side_by_side) (defScope s_side_by_side) .none kV_12 dc_12 pm_12 an_12 cd_12 ct_12), sl_12⟩)
    (c_12 : PySem.W.codeIn K cd_12 "side_by_side" = true)
    (k_12 : PySem.W.keepIn K (.ref f_12) = true)
    (a_13 : PySem.W.nsIn K mainGlobals "behind_one_another" = some (some (.ref f_13)))
    (l_13 : K.lookup f_13 = some ⟨oc_13, od_13, .func (PySem.W.fnOf "behind_one_another" "behind_one_another" (defArgs s_behind_one_another) (defBody s_behind_one_another) (defScope s_behind_one_another) .none kV_13 dc_13 pm_13 an_13 cd_13 ct_13), sl_13⟩)
    (c_13 : PySem.W.codeIn K cd_13 "behind_one_another" = true)
    (k_13 : PySem.W.keepIn K (.ref f_13) = true)
    (a_14 : PySem.W.findIn K (.ref c_Cell) "__init__" = some (some (.ref f_14)))
    (i_14 : PySem.W.isFn K (.ref f_14) = true)
    (l_14 : K.lookup f_14 = some ⟨oc_14, od_14, .func (PySem.W.fnOf "__init__" "Cell.__init__" (defArgs s_Cell___init__) (defBody s_Cell___init__) (defScope s_Cell___init__) .none kV_14 dc_14 pm_14 an_14 cd_14 ct_14), sl_14⟩)
    (c_14 : PySem.W.codeIn K cd_14 "Cell.__init__" = true)
    (k_14 : PySem.W.keepIn K (.ref f_14) = true)
    (a_15 : PySem.W.findIn K (.ref c_Pack) "__init__" = some (some (.ref f_15)))
    (i_15 : PySem.W.isFn K (.ref f_15) = true)
    (l_15 : K.lookup f_15 = some ⟨oc_15, od_15, .func (PySem.W.fnOf "__init__" "Pack.__init__" (defArgs s_Pack___init__) (defBody s_Pack___init__) (defScope s_Pack___init__) .none kV_15 dc_15 pm_15 an_15 cd_15 ct_15), sl_15⟩)
    (c_15 : PySem.W.codeIn K cd_15 "Pack.__init__" = true)
    (k_15 : PySem.W.keepIn K (.ref f_15) = true)
    (a_16 : PySem.W.findIn K (.ref c_Stock) "__init__" = some (some (.ref f_16)))
    (i_16 : PySem.W.isFn K (.ref f_16) = true)
    (l_16 : K.lookup f_16 = some ⟨oc_16, od_16, .func (PySem.W.fnOf "__init__" "Stock.__init__" (defArgs s_Stock___init__) (defBody s_Stock___init__) (defScope s_Stock___init__) .none kV_16 dc_16 pm_16 an_16 cd_16 ct_16), sl_16⟩)
    (c_16 : PySem.W.codeIn K cd_16 "Stock.__init__" = true)
    (k_16 : PySem.W.keepIn K (.ref f_16) = true)
    (a_17 : PySem.W.nsIn K mainGlobals "is_loose" = some (some (.ref f_17)))
    (l_17 : K.lookup f_17 = some ⟨oc_17, od_17, .func (PySem.W.fnOf "is_loose" "is_loose" (defArgs s_is_loose) (defBody s_is_loose) (defScope s_is_loose) .none kV_17 dc_17 pm_17 an_17 cd_17 ct_17), sl_17⟩)
    (c_17 : PySem.W.codeIn K cd_17 "is_loose" = true)
    (k_17 : PySem.W.keepIn K (.ref f_17) = true)
    (a_18 : PySem.W.nsIn K mainGlobals "loose_cells" = some (some (.ref f_18)))
    (l_18 : K.lookup f_18 = some ⟨oc_18, od_18, .func (PySem.W.fnOf "loose_cells" "loose_cells" (defArgs s_loose_cells) (defBody s_loose_cells) (defScope s_loose_cells) .none kV_18 dc_18 pm_18 an_18 cd_18 ct_18), sl_18⟩)
    (c_18 : PySem.W.codeIn K cd_18 "loose_cells" = true)
    (k_18 : PySem.W.keepIn K (.ref f_18) = true)
    (a_19 : PySem.W.nsIn K mainGlobals "held" = some (some (.ref f_19)))
    (l_19 : K.lookup f_19 = some ⟨oc_19, od_19, .func (PySem.W.fnOf "held" "held" (defArgs s_held) (defBody s_held) (defScope s_held) .none kV_19 dc_19 pm_19 an_19 cd_19 ct_19), sl_19⟩)
    (c_19 : PySem.W.codeIn K cd_19 "held" = true)
    (k_19 : PySem.W.keepIn K (.ref f_19) = true)
    (a_20 : PySem.W.nsIn K mainGlobals "grade_of" = some (some (.ref f_20)))
    (l_20 : K.lookup f_20 = some ⟨oc_20, od_20, .func (PySem.W.fnOf "grade_of" "grade_of" (defArgs s_grade_of) (defBody s_grade_of) (defScope s_grade_of) .none kV_20 dc_20 pm_20 an_20 cd_20 ct_20), sl_20⟩)
    (c_20 : PySem.W.codeIn K cd_20 "grade_of" = true)
    (k_20 : PySem.W.keepIn K (.ref f_20) = true)
    (a_21 : PySem.W.nsIn K mainGlobals "free_number" = some (some (.ref f_21)))
    (l_21 : K.lookup f_21 = some ⟨oc_21, od_21, .func (PySem.W.fnOf "free_number" "free_number" (defArgs s_free_number) (defBody s_free_number) (defScope s_free_number) .none kV_21 dc_21 pm_21 an_21 cd_21 ct_21), sl_21⟩)
    (c_21 : PySem.W.codeIn K cd_21 "free_number" = true)
    (k_21 : PySem.W.keepIn K (.ref f_21) = true)
    (a_22 : PySem.W.nsIn K mainGlobals "add_pack" = some (some (.ref f_22)))
    (l_22 : K.lookup f_22 = some ⟨oc_22, od_22, .func (PySem.W.fnOf "add_pack" "add_pack" (defArgs s_add_pack) (defBody s_add_pack) (defScope s_add_pack) .none kV_22 dc_22 pm_22 an_22 cd_22 ct_22), sl_22⟩)
    (c_22 : PySem.W.codeIn K cd_22 "add_pack" = true)
    (k_22 : PySem.W.keepIn K (.ref f_22) = true)
    (a_23 : PySem.W.nsIn K mainGlobals "exchange_cells" = some (some (.ref f_23)))
    (l_23 : K.lookup f_23 = some ⟨oc_23, od_23, .func (PySem.W.fnOf "exchange_cells" "exchange_cells" (defArgs s_exchange_cells) (defBody s_exchange_cells) (defScope s_exchange_cells) .none kV_23 dc_23 pm_23 an_23 cd_23 ct_23), sl_23⟩)
    (c_23 : PySem.W.codeIn K cd_23 "exchange_cells" = true)
    (k_23 : PySem.W.keepIn K (.ref f_23) = true)
    (a_24 : PySem.W.nsIn K mainGlobals "remove_pack" = some (some (.ref f_24)))
    (l_24 : K.lookup f_24 = some ⟨oc_24, od_24, .func (PySem.W.fnOf "remove_pack" "remove_pack" (defArgs s_remove_pack) (defBody s_remove_pack) (defScope s_remove_pack) .none kV_24 dc_24 pm_24 an_24 cd_24 ct_24), sl_24⟩)
    (c_24 : PySem.W.codeIn K cd_24 "remove_pack" = true)
    (k_24 : PySem.W.keepIn K (.ref f_24) = true)
    (a_25 : PySem.W.nsIn K mainGlobals "bounds_as_told" = some (some (.ref f_25)))
    (l_25 : K.lookup f_25 = some ⟨oc_25, od_25, .func (PySem.W.fnOf "bounds_as_told" "bounds_as_told" (defArgs s_bounds_as_told) (defBody s_bounds_as_told) (defScope s_bounds_as_told) .none kV_25 dc_25 pm_25 an_25 cd_25 ct_25), sl_25⟩)
    (c_25 : PySem.W.codeIn K cd_25 "bounds_as_told" = true)
    (k_25 : PySem.W.keepIn K (.ref f_25) = true)
    (a_26 : PySem.W.nsIn K mainGlobals "cell_as_told" = some (some (.ref f_26)))
    (l_26 : K.lookup f_26 = some ⟨oc_26, od_26, .func (PySem.W.fnOf "cell_as_told" "cell_as_told" (defArgs s_cell_as_told) (defBody s_cell_as_told) (defScope s_cell_as_told) .none kV_26 dc_26 pm_26 an_26 cd_26 ct_26), sl_26⟩)
    (c_26 : PySem.W.codeIn K cd_26 "cell_as_told" = true)
    (k_26 : PySem.W.keepIn K (.ref f_26) = true)
    (a_27 : PySem.W.nsIn K mainGlobals "groups_as_told" = some (some (.ref f_27)))
    (l_27 : K.lookup f_27 = some ⟨oc_27, od_27, .func (PySem.W.fnOf "groups_as_told" "groups_as_told" (defArgs s_groups_as_told) (defBody s_groups_as_told) (defScope s_groups_as_told) .none kV_27 dc_27 pm_27 an_27 cd_27 ct_27), sl_27⟩)
    (c_27 : PySem.W.codeIn K cd_27 "groups_as_told" = true)
    (k_27 : PySem.W.keepIn K (.ref f_27) = true)
    (a_28 : PySem.W.nsIn K mainGlobals "has_cell" = some (some (.ref f_28)))
    (l_28 : K.lookup f_28 = some ⟨oc_28, od_28, .func (PySem.W.fnOf "has_cell" "has_cell" (defArgs s_has_cell) (defBody s_has_cell) (defScope s_has_cell) .none kV_28 dc_28 pm_28 an_28 cd_28 ct_28), sl_28⟩)
    (c_28 : PySem.W.codeIn K cd_28 "has_cell" = true)
    (k_28 : PySem.W.keepIn K (.ref f_28) = true)
    (a_29 : PySem.W.nsIn K mainGlobals "loose_refusal" = some (some (.ref f_29)))
    (l_29 : K.lookup f_29 = some ⟨oc_29, od_29, .func (PySem.W.fnOf "loose_refusal" "loose_refusal" (defArgs s_loose_refusal) (defBody s_loose_refusal) (defScope s_loose_refusal) .none kV_29 dc_29 pm_29 an_29 cd_29 ct_29), sl_29⟩)
    (c_29 : PySem.W.codeIn K cd_29 "loose_refusal" = true)
    (k_29 : PySem.W.keepIn K (.ref f_29) = true)
    (a_30 : PySem.W.nsIn K mainGlobals "dealing_refusal" = some (some (.ref f_30)))
    (l_30 : K.lookup f_30 = some ⟨oc_30, od_30, .func (PySem.W.fnOf "dealing_refusal" "dealing_refusal" (defArgs s_dealing_refusal) (defBody s_dealing_refusal) (defScope s_dealing_refusal) .none kV_30 dc_30 pm_30 an_30 cd_30 ct_30), sl_30⟩)
    (c_30 : PySem.W.codeIn K cd_30 "dealing_refusal" = true)
    (k_30 : PySem.W.keepIn K (.ref f_30) = true)
    (a_31 : PySem.W.nsIn K mainGlobals "totals_of" = some (some (.ref f_31)))
    (l_31 : K.lookup f_31 = some ⟨oc_31, od_31, .func (PySem.W.fnOf "totals_of" "totals_of" (defArgs s_totals_of) (defBody s_totals_of) (defScope s_totals_of) .none kV_31 dc_31 pm_31 an_31 cd_31 ct_31), sl_31⟩)
    (c_31 : PySem.W.codeIn K cd_31 "totals_of" = true)
    (k_31 : PySem.W.keepIn K (.ref f_31) = true)
    (a_32 : PySem.W.nsIn K mainGlobals "best_of_loose" = some (some (.ref f_32)))
    (l_32 : K.lookup f_32 = some ⟨oc_32, od_32, .func (PySem.W.fnOf "best_of_loose" "best_of_loose" (defArgs s_best_of_loose) (defBody s_best_of_loose) (defScope s_best_of_loose) .none kV_32 dc_32 pm_32 an_32 cd_32 ct_32), sl_32⟩)
    (c_32 : PySem.W.codeIn K cd_32 "best_of_loose" = true)
    (k_32 : PySem.W.keepIn K (.ref f_32) = true)
    (a_33 : PySem.W.nsIn K mainGlobals "add_cell" = some (some (.ref f_33)))
    (l_33 : K.lookup f_33 = some ⟨oc_33, od_33, .func (PySem.W.fnOf "add_cell" "add_cell" (defArgs s_add_cell) (defBody s_add_cell) (defScope s_add_cell) .none kV_33 dc_33 pm_33 an_33 cd_33 ct_33), sl_33⟩)
    (c_33 : PySem.W.codeIn K cd_33 "add_cell" = true)
    (k_33 : PySem.W.keepIn K (.ref f_33) = true)
    (a_34 : PySem.W.nsIn K mainGlobals "retest_cell" = some (some (.ref f_34)))
    (l_34 : K.lookup f_34 = some ⟨oc_34, od_34, .func (PySem.W.fnOf "retest_cell" "retest_cell" (defArgs s_retest_cell) (defBody s_retest_cell) (defScope s_retest_cell) .none kV_34 dc_34 pm_34 an_34 cd_34 ct_34), sl_34⟩)
    (c_34 : PySem.W.codeIn K cd_34 "retest_cell" = true)
    (k_34 : PySem.W.keepIn K (.ref f_34) = true)
    (a_35 : PySem.W.nsIn K mainGlobals "scrap_cell" = some (some (.ref f_35)))
    (l_35 : K.lookup f_35 = some ⟨oc_35, od_35, .func (PySem.W.fnOf "scrap_cell" "scrap_cell" (defArgs s_scrap_cell) (defBody s_scrap_cell) (defScope s_scrap_cell) .none kV_35 dc_35 pm_35 an_35 cd_35 ct_35), sl_35⟩)
    (c_35 : PySem.W.codeIn K cd_35 "scrap_cell" = true)
    (k_35 : PySem.W.keepIn K (.ref f_35) = true)
    (a_36 : PySem.W.nsIn K mainGlobals "grade_cell" = some (some (.ref f_36)))
    (l_36 : K.lookup f_36 = some ⟨oc_36, od_36, .func (PySem.W.fnOf "grade_cell" "grade_cell" (defArgs s_grade_cell) (defBody s_grade_cell) (defScope s_grade_cell) .none kV_36 dc_36 pm_36 an_36 cd_36 ct_36), sl_36⟩)
    (c_36 : PySem.W.codeIn K cd_36 "grade_cell" = true)
    (k_36 : PySem.W.keepIn K (.ref f_36) = true)
    (a_37 : PySem.W.nsIn K mainGlobals "count_grades" = some (some (.ref f_37)))
    (l_37 : K.lookup f_37 = some ⟨oc_37, od_37, .func (PySem.W.fnOf "count_grades" "count_grades" (defArgs s_count_grades) (defBody s_count_grades) (defScope s_count_grades) .none kV_37 dc_37 pm_37 an_37 cd_37 ct_37), sl_37⟩)
    (c_37 : PySem.W.codeIn K cd_37 "count_grades" = true)
    (k_37 : PySem.W.keepIn K (.ref f_37) = true)
    (a_38 : PySem.W.nsIn K mainGlobals "match_cells" = some (some (.ref f_38)))
    (l_38 : K.lookup f_38 = some ⟨oc_38, od_38, .func (PySem.W.fnOf "match_cells" "match_cells" (defArgs s_match_cells) (defBody s_match_cells) (defScope s_match_cells) .none kV_38 dc_38 pm_38 an_38 cd_38 ct_38), sl_38⟩)
    (c_38 : PySem.W.codeIn K cd_38 "match_cells" = true)
    (k_38 : PySem.W.keepIn K (.ref f_38) = true)
    (a_39 : PySem.W.nsIn K mainGlobals "build_pack" = some (some (.ref f_39)))
    (l_39 : K.lookup f_39 = some ⟨oc_39, od_39, .func (PySem.W.fnOf "build_pack" "build_pack" (defArgs s_build_pack) (defBody s_build_pack) (defScope s_build_pack) .none kV_39 dc_39 pm_39 an_39 cd_39 ct_39), sl_39⟩)
    (c_39 : PySem.W.codeIn K cd_39 "build_pack" = true)
    (k_39 : PySem.W.keepIn K (.ref f_39) = true)
    (a_40 : PySem.W.nsIn K mainGlobals "could_build" = some (some (.ref f_40)))
    (l_40 : K.lookup f_40 = some ⟨oc_40, od_40, .func (PySem.W.fnOf "could_build" "could_build" (defArgs s_could_build) (defBody s_could_build) (defScope s_could_build) .none kV_40 dc_40 pm_40 an_40 cd_40 ct_40), sl_40⟩)
    (c_40 : PySem.W.codeIn K cd_40 "could_build" = true)
    (k_40 : PySem.W.keepIn K (.ref f_40) = true)
    (a_41 : PySem.W.nsIn K mainGlobals "tell_pack" = some (some (.ref f_41)))
    (l_41 : K.lookup f_41 = some ⟨oc_41, od_41, .func (PySem.W.fnOf "tell_pack" "tell_pack" (defArgs s_tell_pack) (defBody s_tell_pack) (defScope s_tell_pack) .none kV_41 dc_41 pm_41 an_41 cd_41 ct_41), sl_41⟩)
    (c_41 : PySem.W.codeIn K cd_41 "tell_pack" = true)
    (k_41 : PySem.W.keepIn K (.ref f_41) = true)
    (a_42 : PySem.W.nsIn K mainGlobals "tell_strength" = some (some (.ref f_42)))
    (l_42 : K.lookup f_42 = some ⟨oc_42, od_42, .func (PySem.W.fnOf "tell_strength" "tell_strength" (defArgs s_tell_strength) (defBody s_tell_strength) (defScope s_tell_strength) .none kV_42 dc_42 pm_42 an_42 cd_42 ct_42), sl_42⟩)
    (c_42 : PySem.W.codeIn K cd_42 "tell_strength" = true)
    (k_42 : PySem.W.keepIn K (.ref f_42) = true)
    (a_43 : PySem.W.nsIn K mainGlobals "tell_weak" = some (some (.ref f_43)))
    (l_43 : K.lookup f_43 = some ⟨oc_43, od_43, .func (PySem.W.fnOf "tell_weak" "tell_weak" (defArgs s_tell_weak) (defBody s_tell_weak) (defScope s_tell_weak) .none kV_43 dc_43 pm_43 an_43 cd_43 ct_43), sl_43⟩)
    (c_43 : PySem.W.codeIn K cd_43 "tell_weak" = true)
    (k_43 : PySem.W.keepIn K (.ref f_43) = true)
    (a_44 : PySem.W.nsIn K mainGlobals "tell_lacks" = some (some (.ref f_44)))
    (l_44 : K.lookup f_44 = some ⟨oc_44, od_44, .func (PySem.W.fnOf "tell_lacks" "tell_lacks" (defArgs s_tell_lacks) (defBody s_tell_lacks) (defScope s_tell_lacks) .none kV_44 dc_44 pm_44 an_44 cd_44 ct_44), sl_44⟩)
    (c_44 : PySem.W.codeIn K cd_44 "tell_lacks" = true)
    (k_44 : PySem.W.keepIn K (.ref f_44) = true)
    (a_45 : PySem.W.nsIn K mainGlobals "tell_better" = some (some (.ref f_45)))
    (l_45 : K.lookup f_45 = some ⟨oc_45, od_45, .func (PySem.W.fnOf "tell_better" "tell_better" (defArgs s_tell_better) (defBody s_tell_better) (defScope s_tell_better) .none kV_45 dc_45 pm_45 an_45 cd_45 ct_45), sl_45⟩)
    (c_45 : PySem.W.codeIn K cd_45 "tell_better" = true)
    (k_45 : PySem.W.keepIn K (.ref f_45) = true)
    (a_46 : PySem.W.nsIn K mainGlobals "exchange" = some (some (.ref f_46)))
    (l_46 : K.lookup f_46 = some ⟨oc_46, od_46, .func (PySem.W.fnOf "exchange" "exchange" (defArgs s_exchange) (defBody s_exchange) (defScope s_exchange) .none kV_46 dc_46 pm_46 an_46 cd_46 ct_46), sl_46⟩)
    (c_46 : PySem.W.codeIn K cd_46 "exchange" = true)
    (k_46 : PySem.W.keepIn K (.ref f_46) = true)
    (a_47 : PySem.W.nsIn K mainGlobals "tell_resists" = some (some (.ref f_47)))
    (l_47 : K.lookup f_47 = some ⟨oc_47, od_47, .func (PySem.W.fnOf "tell_resists" "tell_resists" (defArgs s_tell_resists) (defBody s_tell_resists) (defScope s_tell_resists) .none kV_47 dc_47 pm_47 an_47 cd_47 ct_47), sl_47⟩)
    (c_47 : PySem.W.codeIn K cd_47 "tell_resists" = true)
    (k_47 : PySem.W.keepIn K (.ref f_47) = true)
    (a_48 : PySem.W.nsIn K mainGlobals "tell_near" = some (some (.ref f_48)))
    (l_48 : K.lookup f_48 = some ⟨oc_48, od_48, .func (PySem.W.fnOf "tell_near" "tell_near" (defArgs s_tell_near) (defBody s_tell_near) (defScope s_tell_near) .none kV_48 dc_48 pm_48 an_48 cd_48 ct_48), sl_48⟩)
    (c_48 : PySem.W.codeIn K cd_48 "tell_near" = true)
    (k_48 : PySem.W.keepIn K (.ref f_48) = true)
    (a_49 : PySem.W.nsIn K mainGlobals "tell_loose" = some (some (.ref f_49)))
    (l_49 : K.lookup f_49 = some ⟨oc_49, od_49, .func (PySem.W.fnOf "tell_loose" "tell_loose" (defArgs s_tell_loose) (defBody s_tell_loose) (defScope s_tell_loose) .none kV_49 dc_49 pm_49 an_49 cd_49 ct_49), sl_49⟩)
    (c_49 : PySem.W.codeIn K cd_49 "tell_loose" = true)
    (k_49 : PySem.W.keepIn K (.ref f_49) = true)
    (a_50 : PySem.W.nsIn K mainGlobals "retire_pack" = some (some (.ref f_50)))
    (l_50 : K.lookup f_50 = some ⟨oc_50, od_50, .func (PySem.W.fnOf "retire_pack" "retire_pack" (defArgs s_retire_pack) (defBody s_retire_pack) (defScope s_retire_pack) .none kV_50 dc_50 pm_50 an_50 cd_50 ct_50), sl_50⟩)
    (c_50 : PySem.W.codeIn K cd_50 "retire_pack" = true)
    (k_50 : PySem.W.keepIn K (.ref f_50) = true)
    (a_51 : PySem.W.nsIn K mainGlobals "look_at_cell" = some (some (.ref f_51)))
    (l_51 : K.lookup f_51 = some ⟨oc_51, od_51, .func (PySem.W.fnOf "look_at_cell" "look_at_cell" (defArgs s_look_at_cell) (defBody s_look_at_cell) (defScope s_look_at_cell) .none kV_51 dc_51 pm_51 an_51 cd_51 ct_51), sl_51⟩)
    (c_51 : PySem.W.codeIn K cd_51 "look_at_cell" = true)
    (k_51 : PySem.W.keepIn K (.ref f_51) = true)
    (a_52 : PySem.W.nsIn K mainGlobals "tell_state" = some (some (.ref f_52)))
    (l_52 : K.lookup f_52 = some ⟨oc_52, od_52, .func (PySem.W.fnOf "tell_state" "tell_state" (defArgs s_tell_state) (defBody s_tell_state) (defScope s_tell_state) .none kV_52 dc_52 pm_52 an_52 cd_52 ct_52), sl_52⟩)
    (c_52 : PySem.W.codeIn K cd_52 "tell_state" = true)
    (k_52 : PySem.W.keepIn K (.ref f_52) = true)
    (a_53 : PySem.W.nsIn K mainGlobals "split_calls" = some (some (.ref f_53)))
    (l_53 : K.lookup f_53 = some ⟨oc_53, od_53, .func (PySem.W.fnOf "split_calls" "split_calls" (defArgs s_split_calls) (defBody s_split_calls) (defScope s_split_calls) .none kV_53 dc_53 pm_53 an_53 cd_53 ct_53), sl_53⟩)
    (c_53 : PySem.W.codeIn K cd_53 "split_calls" = true)
    (k_53 : PySem.W.keepIn K (.ref f_53) = true)
    (a_54 : PySem.W.nsIn K mainGlobals "answer_call" = some (some (.ref f_54)))
    (l_54 : K.lookup f_54 = some ⟨oc_54, od_54, .func (PySem.W.fnOf "answer_call" "answer_call" (defArgs s_answer_call) (defBody s_answer_call) (defScope s_answer_call) .none kV_54 dc_54 pm_54 an_54 cd_54 ct_54), sl_54⟩)
    (c_54 : PySem.W.codeIn K cd_54 "answer_call" = true)
    (k_54 : PySem.W.keepIn K (.ref f_54) = true)
    (a_55 : PySem.W.nsIn K mainGlobals "answers" = some (some (.ref f_55)))
    (l_55 : K.lookup f_55 = some ⟨oc_55, od_55, .func (PySem.W.fnOf "answers" "answers" (defArgs s_answers) (defBody s_answers) (defScope s_answers) .none kV_55 dc_55 pm_55 an_55 cd_55 ct_55), sl_55⟩)
    (c_55 : PySem.W.codeIn K cd_55 "answers" = true)
    (k_55 : PySem.W.keepIn K (.ref f_55) = true)
    (pg_Cell : PySem.W.plainGet K c_Cell Str.empty = true)
    (hd_Cell : PySem.W.hasDictIn K c_Cell = true)
    (po_Cell : PySem.W.plainOver K c_Cell = true)
    (sa_Cell : PySem.W.findIn K (.ref c_Cell) "__setattr__" = some (some (.builtin "object.__setattr__")))
    (mk_Cell : PySem.W.makesIn K c_Cell = true)
    (kc_Cell : PySem.W.keepIn K (.ref c_Cell) = true)
    (n_Cell_holds : PySem.W.findIn K (.ref c_Cell) "holds" = some none)
    (n_Cell_resists : PySem.W.findIn K (.ref c_Cell) "resists" = some none)
    (n_Cell_pack : PySem.W.findIn K (.ref c_Cell) "pack" = some none)
    (n_Cell_scrap : PySem.W.findIn K (.ref c_Cell) "scrap" = some none)
    (pg_Pack : PySem.W.plainGet K c_Pack Str.empty = true)
    (hd_Pack : PySem.W.hasDictIn K c_Pack = true)
    (po_Pack : PySem.W.plainOver K c_Pack = true)
    (sa_Pack : PySem.W.findIn K (.ref c_Pack) "__setattr__" = some (some (.builtin "object.__setattr__")))
    (mk_Pack : PySem.W.makesIn K c_Pack = true)
    (kc_Pack : PySem.W.keepIn K (.ref c_Pack) = true)
    (n_Pack_size : PySem.W.findIn K (.ref c_Pack) "size" = some none)
    (n_Pack_cells : PySem.W.findIn K (.ref c_Pack) "cells" = some none)
    (pg_Stock : PySem.W.plainGet K c_Stock Str.empty = true)
    (hd_Stock : PySem.W.hasDictIn K c_Stock = true)
    (po_Stock : PySem.W.plainOver K c_Stock = true)
    (sa_Stock : PySem.W.findIn K (.ref c_Stock) "__setattr__" = some (some (.builtin "object.__setattr__")))
    (mk_Stock : PySem.W.makesIn K c_Stock = true)
    (kc_Stock : PySem.W.keepIn K (.ref c_Stock) = true)
    (n_Stock_bounds : PySem.W.findIn K (.ref c_Stock) "bounds" = some none)
    (n_Stock_cells : PySem.W.findIn K (.ref c_Stock) "cells" = some none)
    (n_Stock_packs : PySem.W.findIn K (.ref c_Stock) "packs" = some none)
    (x_Cell_Pack : c_Cell ≠ c_Pack)
    (x_Cell_Stock : c_Cell ≠ c_Stock)
    (x_Pack_Stock : c_Pack ≠ c_Stock)
    (a_HANDED : PySem.W.nsIn K mainGlobals "HANDED" = some (some (.ref d_HANDED)))
    (l_HANDED : K.lookup d_HANDED = some ⟨.type "dict", none, .dict #[⟨1, .int 1 tk_HANDED_0, .int 2 tv_HANDED_0⟩, ⟨2, .int 2 tk_HANDED_1, .int 3 tv_HANDED_1⟩, ⟨3, .int 3 tk_HANDED_2, .int 1 tv_HANDED_2⟩, ⟨4, .int 4 tk_HANDED_3, .int 1 tv_HANDED_3⟩, ⟨5, .int 5 tk_HANDED_4, .int 0 tv_HANDED_4⟩, ⟨6, .int 6 tk_HANDED_5, .int 2 tv_HANDED_5⟩, ⟨7, .int 7 tk_HANDED_6, .int 2 tv_HANDED_6⟩, ⟨8, .int 8 tk_HANDED_7, .int 3 tv_HANDED_7⟩, ⟨9, .int 9 tk_HANDED_8, .int 1 tv_HANDED_8⟩, ⟨10, .int 10 tk_HANDED_9, .int 1 tv_HANDED_9⟩, ⟨11, .int 11 tk_HANDED_10, .int 1 tv_HANDED_10⟩, ⟨12, .int 12 tk_HANDED_11, .int 1 tv_HANDED_11⟩, ⟨13, .int 13 tk_HANDED_12, .int 1 tv_HANDED_12⟩, ⟨14, .int 14 tk_HANDED_13, .int 2 tv_HANDED_13⟩, ⟨15, .int 15 tk_HANDED_14, .int 1 tv_HANDED_14⟩, ⟨16, .int 16 tk_HANDED_15, .int 0 tv_HANDED_15⟩, ⟨17, .int 17 tk_HANDED_16, .int 0 tv_HANDED_16⟩, ⟨18, .int 18 tk_HANDED_17, .int 1 tv_HANDED_17⟩, ⟨19, .int 19 tk_HANDED_18, .int 1 tv_HANDED_18⟩, ⟨20, .int 20 tk_HANDED_19, .int 0 tv_HANDED_19⟩] ep_HANDED, #[]⟩)
    (s_HANDED : (d_HANDED == sysModules) = false)
    (a_ACTIONS : PySem.W.nsIn K mainGlobals "ACTIONS" = some (some (.ref d_ACTIONS)))
    (l_ACTIONS : K.lookup d_ACTIONS = some ⟨.type "dict", none, .dict #[⟨1, .int 1 tk_ACTIONS_0, .ref f_33⟩, ⟨2, .int 2 tk_ACTIONS_1, .ref f_34⟩, ⟨3, .int 3 tk_ACTIONS_2, .ref f_35⟩, ⟨4, .int 4 tk_ACTIONS_3, .ref f_36⟩, ⟨5, .int 5 tk_ACTIONS_4, .ref f_37⟩, ⟨6, .int 6 tk_ACTIONS_5, .ref f_38⟩, ⟨7, .int 7 tk_ACTIONS_6, .ref f_39⟩, ⟨8, .int 8 tk_ACTIONS_7, .ref f_40⟩, ⟨9, .int 9 tk_ACTIONS_8, .ref f_41⟩, ⟨10, .int 10 tk_ACTIONS_9, .ref f_42⟩, ⟨11, .int 11 tk_ACTIONS_10, .ref f_43⟩, ⟨12, .int 12 tk_ACTIONS_11, .ref f_44⟩, ⟨13, .int 13 tk_ACTIONS_12, .ref f_45⟩, ⟨14, .int 14 tk_ACTIONS_13, .ref f_46⟩, ⟨15, .int 15 tk_ACTIONS_14, .ref f_47⟩, ⟨16, .int 16 tk_ACTIONS_15, .ref f_48⟩, ⟨17, .int 17 tk_ACTIONS_16, .ref f_49⟩, ⟨18, .int 18 tk_ACTIONS_17, .ref f_50⟩, ⟨19, .int 19 tk_ACTIONS_18, .ref f_51⟩, ⟨20, .int 20 tk_ACTIONS_19, .ref f_52⟩] ep_ACTIONS, #[]⟩)
    (s_ACTIONS : (d_ACTIONS == sysModules) = false)
    (a_MOST_BOUNDS : PySem.W.nsIn K mainGlobals "MOST_BOUNDS" = some (some (.int (6) t_MOST_BOUNDS)))
    (a_MOST_CELLS : PySem.W.nsIn K mainGlobals "MOST_CELLS" = some (some (.int (24) t_MOST_CELLS)))
    (a_MOST_HELD : PySem.W.nsIn K mainGlobals "MOST_HELD" = some (some (.int (10000) t_MOST_HELD)))
    (a_MOST_RESISTED : PySem.W.nsIn K mainGlobals "MOST_RESISTED" = some (some (.int (100) t_MOST_RESISTED)))
    (a_MOST_GROUPS : PySem.W.nsIn K mainGlobals "MOST_GROUPS" = some (some (.int (4) t_MOST_GROUPS)))
    (a_MOST_IN_GROUP : PySem.W.nsIn K mainGlobals "MOST_IN_GROUP" = some (some (.int (4) t_MOST_IN_GROUP)))
    (a_MOST_DEALT : PySem.W.nsIn K mainGlobals "MOST_DEALT" = some (some (.int (8) t_MOST_DEALT)))
    (a_NO_SUCH : PySem.W.nsIn K mainGlobals "NO_SUCH" = some (some (.int (-2) t_NO_SUCH)))
    (a_NOT_PACKED : PySem.W.nsIn K mainGlobals "NOT_PACKED" = some (some (.int (-6) t_NOT_PACKED)))
    (a_NOT_STARTED : PySem.W.nsIn K mainGlobals "NOT_STARTED" = some (some (.int (-11) t_NOT_STARTED)))
    (a_TOO_FEW : PySem.W.nsIn K mainGlobals "TOO_FEW" = some (some (.int (-12) t_TOO_FEW)))
    (a_NOT_LOOSE : PySem.W.nsIn K mainGlobals "NOT_LOOSE" = some (some (.int (-16) t_NOT_LOOSE)))
    (a_NOT_AS_TOLD : PySem.W.nsIn K mainGlobals "NOT_AS_TOLD" = some (some (.int (-22) t_NOT_AS_TOLD)))
    (a_FULL : PySem.W.nsIn K mainGlobals "FULL" = some (some (.int (-28) t_FULL)))
    (a_NO_BETTER : PySem.W.nsIn K mainGlobals "NO_BETTER" = some (some (.int (-33) t_NO_BETTER)))
    (a_START : PySem.W.nsIn K mainGlobals "START" = some (some (.int (0) t_START)))
    (b_abs : PySem.W.nsIn K mainGlobals "abs" = some none)
    (b_enumerate : PySem.W.nsIn K mainGlobals "enumerate" = some none)
    (b_len : PySem.W.nsIn K mainGlobals "len" = some none)
    (b_max : PySem.W.nsIn K mainGlobals "max" = some none)
    (b_min : PySem.W.nsIn K mainGlobals "min" = some none)
    (b_range : PySem.W.nsIn K mainGlobals "range" = some none)
    (b_sum : PySem.W.nsIn K mainGlobals "sum" = some none) :
    ∃ A : Ad, Txt K mg A :=
  ⟨⟨f_0, PySem.W.fnOf "group_totals" "group_totals" (defArgs s_group_totals) (defBody s_group_totals) (defScope s_group_totals) .none kV_0 dc_0 pm_0 an_0 cd_0 ct_0, f_1, PySem.W.fnOf "strength_of" "strength_of" (defArgs s_strength_of) (defBody s_strength_of) (defScope s_strength_of) .none kV_1 dc_1 pm_1 an_1 cd_1 ct_1, f_2, PySem.W.fnOf "spread_of" "spread_of" (defArgs s_spread_of) (defBody s_spread_of) (defScope s_spread_of) .none kV_2 dc_2 pm_2 an_2 cd_2 ct_2, f_3, PySem.W.fnOf "may_follow" "may_follow" (defArgs s_may_follow) (defBody s_may_follow) (defScope s_may_follow) .none kV_3 dc_3 pm_3 an_3 cd_3 ct_3, f_4, PySem.W.fnOf "all_dealings" "all_dealings" (defArgs s_all_dealings) (defBody s_all_dealings) (defScope s_all_dealings) .none kV_4 dc_4 pm_4 an_4 cd_4 ct_4, f_5, PySem.W.fnOf "best_dealing" "best_dealing" (defArgs s_best_dealing) (defBody s_best_dealing) (defScope s_best_dealing) .none kV_5 dc_5 pm_5 an_5 cd_5 ct_5, f_6, PySem.W.fnOf "strength_by" "strength_by" (defArgs s_strength_by) (defBody s_strength_by) (defScope s_strength_by) .none kV_6 dc_6 pm_6 an_6 cd_6 ct_6, f_7, PySem.W.fnOf "best_exchange" "best_exchange" (defArgs s_best_exchange) (defBody s_best_exchange) (defScope s_best_exchange) .none kV_7 dc_7 pm_7 an_7 cd_7 ct_7, f_8, PySem.W.fnOf "nearest_two" "nearest_two" (defArgs s_nearest_two) (defBody s_nearest_two) (defScope s_nearest_two) .none kV_8 dc_8 pm_8 an_8 cd_8 ct_8, f_9, PySem.W.fnOf "common_divisor" "common_divisor" (defArgs s_common_divisor) (defBody s_common_divisor) (defScope s_common_divisor) .none kV_9 dc_9 pm_9 an_9 cd_9 ct_9, f_10, PySem.W.fnOf "lowest_terms" "lowest_terms" (defArgs s_lowest_terms) (defBody s_lowest_terms) (defScope s_lowest_terms) .none kV_10 dc_10 pm_10 an_10 cd_10 ct_10, f_11, PySem.W.fnOf "add_fractions" "add_fractions" (defArgs s_add_fractions) (defBody s_add_fractions) (defScope s_add_fractions) .none kV_11 dc_11 pm_11 an_11 cd_11 ct_11, f_12, PySem.W.fnOf "side_by_side" "side_by_side" (defArgs s_side_by_side) (defBody s_side_by_side) (defScope s_side_by_side) .none kV_12 dc_12 pm_12 an_12 cd_12 ct_12, f_13, PySem.W.fnOf "behind_one_another" "behind_one_another" (defArgs s_behind_one_another) (defBody s_behind_one_another) (defScope s_behind_one_another) .none kV_13 dc_13 pm_13 an_13 cd_13 ct_13, f_14, PySem.W.fnOf "__init__" "Cell.__init__" (defArgs s_Cell___init__) (defBody s_Cell___init__) (defScope s_Cell___init__) .none kV_14 dc_14 pm_14 an_14 cd_14 ct_14, f_15, PySem.W.fnOf "__init__" "Pack.__init__" (defArgs s_Pack___init__) (defBody s_Pack___init__) (defScope s_Pack___init__) .none kV_15 dc_15 pm_15 an_15 cd_15 ct_15, f_16, PySem.W.fnOf "__init__" "Stock.__init__" (defArgs s_Stock___init__) (defBody s_Stock___init__) (defScope s_Stock___init__) .none kV_16 dc_16 pm_16 an_16 cd_16 ct_16, f_17, PySem.W.fnOf "is_loose" "is_loose" (defArgs s_is_loose) (defBody s_is_loose) (defScope s_is_loose) .none kV_17 dc_17 pm_17 an_17 cd_17 ct_17, f_18, PySem.W.fnOf "loose_cells" "loose_cells" (defArgs s_loose_cells) (defBody s_loose_cells) (defScope s_loose_cells) .none kV_18 dc_18 pm_18 an_18 cd_18 ct_18, f_19, PySem.W.fnOf "held" "held" (defArgs s_held) (defBody s_held) (defScope s_held) .none kV_19 dc_19 pm_19 an_19 cd_19 ct_19, f_20, PySem.W.fnOf "grade_of" "grade_of" (defArgs s_grade_of) (defBody s_grade_of) (defScope s_grade_of) .none kV_20 dc_20 pm_20 an_20 cd_20 ct_20, f_21, PySem.W.fnOf "free_number" "free_number" (defArgs s_free_number) (defBody s_free_number) (defScope s_free_number) .none kV_21 dc_21 pm_21 an_21 cd_21 ct_21, f_22, PySem.W.fnOf "add_pack" "add_pack" (defArgs s_add_pack) (defBody s_add_pack) (defScope s_add_pack) .none kV_22 dc_22 pm_22 an_22 cd_22 ct_22, f_23, PySem.W.fnOf "exchange_cells" "exchange_cells" (defArgs s_exchange_cells) (defBody s_exchange_cells) (defScope s_exchange_cells) .none kV_23 dc_23 pm_23 an_23 cd_23 ct_23, f_24, PySem.W.fnOf "remove_pack" "remove_pack" (defArgs s_remove_pack) (defBody s_remove_pack) (defScope s_remove_pack) .none kV_24 dc_24 pm_24 an_24 cd_24 ct_24, f_25, PySem.W.fnOf "bounds_as_told" "bounds_as_told" (defArgs s_bounds_as_told) (defBody s_bounds_as_told) (defScope s_bounds_as_told) .none kV_25 dc_25 pm_25 an_25 cd_25 ct_25, f_26, PySem.W.fnOf "cell_as_told" "cell_as_told" (defArgs s_cell_as_told) (defBody s_cell_as_told) (defScope s_cell_as_told) .none kV_26 dc_26 pm_26 an_26 cd_26 ct_26, f_27, PySem.W.fnOf "groups_as_told" "groups_as_told" (defArgs s_groups_as_told) (defBody s_groups_as_told) (defScope s_groups_as_told) .none kV_27 dc_27 pm_27 an_27 cd_27 ct_27, f_28, PySem.W.fnOf "has_cell" "has_cell" (defArgs s_has_cell) (defBody s_has_cell) (defScope s_has_cell) .none kV_28 dc_28 pm_28 an_28 cd_28 ct_28, f_29, PySem.W.fnOf "loose_refusal" "loose_refusal" (defArgs s_loose_refusal) (defBody s_loose_refusal) (defScope s_loose_refusal) .none kV_29 dc_29 pm_29 an_29 cd_29 ct_29, f_30, PySem.W.fnOf "dealing_refusal" "dealing_refusal" (defArgs s_dealing_refusal) (defBody s_dealing_refusal) (defScope s_dealing_refusal) .none kV_30 dc_30 pm_30 an_30 cd_30 ct_30, f_31, PySem.W.fnOf "totals_of" "totals_of" (defArgs s_totals_of) (defBody s_totals_of) (defScope s_totals_of) .none kV_31 dc_31 pm_31 an_31 cd_31 ct_31, f_32, PySem.W.fnOf "best_of_loose" "best_of_loose" (defArgs s_best_of_loose) (defBody s_best_of_loose) (defScope s_best_of_loose) .none kV_32 dc_32 pm_32 an_32 cd_32 ct_32, f_33, PySem.W.fnOf "add_cell" "add_cell" (defArgs s_add_cell) (defBody s_add_cell) (defScope s_add_cell) .none kV_33 dc_33 pm_33 an_33 cd_33 ct_33, f_34, PySem.W.fnOf "retest_cell" "retest_cell" (defArgs s_retest_cell) (defBody s_retest_cell) (defScope s_retest_cell) .none kV_34 dc_34 pm_34 an_34 cd_34 ct_34, f_35, PySem.W.fnOf "scrap_cell" "scrap_cell" (defArgs s_scrap_cell) (defBody s_scrap_cell) (defScope s_scrap_cell) .none kV_35 dc_35 pm_35 an_35 cd_35 ct_35, f_36, PySem.W.fnOf "grade_cell" "grade_cell" (defArgs s_grade_cell) (defBody s_grade_cell) (defScope s_grade_cell) .none kV_36 dc_36 pm_36 an_36 cd_36 ct_36, f_37, PySem.W.fnOf "count_grades" "count_grades" (defArgs s_count_grades) (defBody s_count_grades) (defScope s_count_grades) .none kV_37 dc_37 pm_37 an_37 cd_37 ct_37, f_38, PySem.W.fnOf "match_cells" "match_cells" (defArgs s_match_cells) (defBody s_match_cells) (defScope s_match_cells) .none kV_38 dc_38 pm_38 an_38 cd_38 ct_38, f_39, PySem.W.fnOf "build_pack" "build_pack" (defArgs s_build_pack) (defBody s_build_pack) (defScope s_build_pack) .none kV_39 dc_39 pm_39 an_39 cd_39 ct_39, f_40, PySem.W.fnOf "could_build" "could_build" (defArgs s_could_build) (defBody s_could_build) (defScope s_could_build) .none kV_40 dc_40 pm_40 an_40 cd_40 ct_40, f_41, PySem.W.fnOf "tell_pack" "tell_pack" (defArgs s_tell_pack) (defBody s_tell_pack) (defScope s_tell_pack) .none kV_41 dc_41 pm_41 an_41 cd_41 ct_41, f_42, PySem.W.fnOf "tell_strength" "tell_strength" (defArgs s_tell_strength) (defBody s_tell_strength) (defScope s_tell_strength) .none kV_42 dc_42 pm_42 an_42 cd_42 ct_42, f_43, PySem.W.fnOf "tell_weak" "tell_weak" (defArgs s_tell_weak) (defBody s_tell_weak) (defScope s_tell_weak) .none kV_43 dc_43 pm_43 an_43 cd_43 ct_43, f_44, PySem.W.fnOf "tell_lacks" "tell_lacks" (defArgs s_tell_lacks) (defBody s_tell_lacks) (defScope s_tell_lacks) .none kV_44 dc_44 pm_44 an_44 cd_44 ct_44, f_45, PySem.W.fnOf "tell_better" "tell_better" (defArgs s_tell_better) (defBody s_tell_better) (defScope s_tell_better) .none kV_45 dc_45 pm_45 an_45 cd_45 ct_45, f_46, PySem.W.fnOf "exchange" "exchange" (defArgs s_exchange) (defBody s_exchange) (defScope s_exchange) .none kV_46 dc_46 pm_46 an_46 cd_46 ct_46, f_47, PySem.W.fnOf "tell_resists" "tell_resists" (defArgs s_tell_resists) (defBody s_tell_resists) (defScope s_tell_resists) .none kV_47 dc_47 pm_47 an_47 cd_47 ct_47, f_48, PySem.W.fnOf "tell_near" "tell_near" (defArgs s_tell_near) (defBody s_tell_near) (defScope s_tell_near) .none kV_48 dc_48 pm_48 an_48 cd_48 ct_48, f_49, PySem.W.fnOf "tell_loose" "tell_loose" (defArgs s_tell_loose) (defBody s_tell_loose) (defScope s_tell_loose) .none kV_49 dc_49 pm_49 an_49 cd_49 ct_49, f_50, PySem.W.fnOf "retire_pack" "retire_pack" (defArgs s_retire_pack) (defBody s_retire_pack) (defScope s_retire_pack) .none kV_50 dc_50 pm_50 an_50 cd_50 ct_50, f_51, PySem.W.fnOf "look_at_cell" "look_at_cell" (defArgs s_look_at_cell) (defBody s_look_at_cell) (defScope s_look_at_cell) .none kV_51 dc_51 pm_51 an_51 cd_51 ct_51, f_52, PySem.W.fnOf "tell_state" "tell_state" (defArgs s_tell_state) (defBody s_tell_state) (defScope s_tell_state) .none kV_52 dc_52 pm_52 an_52 cd_52 ct_52, f_53, PySem.W.fnOf "split_calls" "split_calls" (defArgs s_split_calls) (defBody s_split_calls) (defScope s_split_calls) .none kV_53 dc_53 pm_53 an_53 cd_53 ct_53, f_54, PySem.W.fnOf "answer_call" "answer_call" (defArgs s_answer_call) (defBody s_answer_call) (defScope s_answer_call) .none kV_54 dc_54 pm_54 an_54 cd_54 ct_54, f_55, PySem.W.fnOf "answers" "answers" (defArgs s_answers) (defBody s_answers) (defScope s_answers) .none kV_55 dc_55 pm_55 an_55 cd_55 ct_55, c_Cell, c_Pack, c_Stock, d_HANDED, d_ACTIONS⟩, {
    F_group_totals := fun_mk l_0 c_0 k_0,
    b_group_totals := (fun_mk (st := s_group_totals) l_0 c_0 k_0).binds (ps := ["cells", "size", "holds"]) (fun _ _ _ _ _ _ us hl => by apply len3 us hl; intros; rfl),
    m_group_totals := PySem.W.mg_of X G a_0,
    F_strength_of := fun_mk l_1 c_1 k_1,
    b_strength_of := (fun_mk (st := s_strength_of) l_1 c_1 k_1).binds (ps := ["totals"]) (fun _ _ _ _ _ _ us hl => by apply len1 us hl; intros; rfl),
    m_strength_of := PySem.W.mg_of X G a_1,
    F_spread_of := fun_mk l_2 c_2 k_2,
    b_spread_of := (fun_mk (st := s_spread_of) l_2 c_2 k_2).binds (ps := ["totals"]) (fun _ _ _ _ _ _ us hl => by apply len1 us hl; intros; rfl),
    m_spread_of := PySem.W.mg_of X G a_2,
    F_may_follow := fun_mk l_3 c_3 k_3,
    b_may_follow := (fun_mk (st := s_may_follow) l_3 c_3 k_3).binds (ps := ["dealt", "size", "cell"]) (fun _ _ _ _ _ _ us hl => by apply len3 us hl; intros; rfl),
    m_may_follow := PySem.W.mg_of X G a_3,
    F_all_dealings := fun_mk l_4 c_4 k_4,
    b_all_dealings := (fun_mk (st := s_all_dealings) l_4 c_4 k_4).binds (ps := ["loose", "groups", "size"]) (fun _ _ _ _ _ _ us hl => by apply len3 us hl; intros; rfl),
    m_all_dealings := PySem.W.mg_of X G a_4,
    F_best_dealing := fun_mk l_5 c_5 k_5,
    b_best_dealing := (fun_mk (st := s_best_dealing) l_5 c_5 k_5).binds (ps := ["loose", "groups", "size", "holds"]) (fun _ _ _ _ _ _ us hl => by apply len4 us hl; intros; rfl),
    m_best_dealing := PySem.W.mg_of X G a_5,
    F_strength_by := fun_mk l_6 c_6 k_6,
    b_strength_by := (fun_mk (st := s_strength_by) l_6 c_6 k_6).binds (ps := ["cells", "size", "holds", "place", "other"]) (fun _ _ _ _ _ _ us hl => by apply len5 us hl; intros; rfl),
    m_strength_by := PySem.W.mg_of X G a_6,
    F_best_exchange := fun_mk l_7 c_7 k_7,
    b_best_exchange := (fun_mk (st := s_best_exchange) l_7 c_7 k_7).binds (ps := ["cells", "size", "loose", "holds"]) (fun _ _ _ _ _ _ us hl => by apply len4 us hl; intros; rfl),
    m_best_exchange := PySem.W.mg_of X G a_7,
    F_nearest_two := fun_mk l_8 c_8 k_8,
    b_nearest_two := (fun_mk (st := s_nearest_two) l_8 c_8 k_8).binds (ps := ["loose", "holds"]) (fun _ _ _ _ _ _ us hl => by apply len2 us hl; intros; rfl),
    m_nearest_two := PySem.W.mg_of X G a_8,
    F_common_divisor := fun_mk l_9 c_9 k_9,
    b_common_divisor := (fun_mk (st := s_common_divisor) l_9 c_9 k_9).binds (ps := ["one", "other"]) (fun _ _ _ _ _ _ us hl => by apply len2 us hl; intros; rfl),
    m_common_divisor := PySem.W.mg_of X G a_9,
    F_lowest_terms := fun_mk l_10 c_10 k_10,
    b_lowest_terms := (fun_mk (st := s_lowest_terms) l_10 c_10 k_10).binds (ps := ["upper", "lower"]) (fun _ _ _ _ _ _ us hl => by apply len2 us hl; intros; rfl),
    m_lowest_terms := PySem.W.mg_of X G a_10,
    F_add_fractions := fun_mk l_11 c_11 k_11,
    b_add_fractions := (fun_mk (st := s_add_fractions) l_11 c_11 k_11).binds (ps := ["one", "other"]) (fun _ _ _ _ _ _ us hl => by apply len2 us hl; intros; rfl),
    m_add_fractions := PySem.W.mg_of X G a_11,
    F_side_by_side := fun_mk l_12 c_12 k_12,
    b_side_by_side := (fun_mk (st := s_side_by_side) l_12 c_12 k_12).binds (ps := ["resists"]) (fun _ _ _ _ _ _ us hl => by apply len1 us hl; intros; rfl),
    m_side_by_side := PySem.W.mg_of X G a_12,
    F_behind_one_another := fun_mk l_13 c_13 k_13,
    b_behind_one_another := (fun_mk (st := s_behind_one_another) l_13 c_13 k_13).binds (ps := ["resists", "size"]) (fun _ _ _ _ _ _ us hl => by apply len2 us hl; intros; rfl),
    m_behind_one_another := PySem.W.mg_of X G a_13,
    F_Cell___init__ := fun_mk l_14 c_14 k_14,
    b_Cell___init__ := (fun_mk (st := s_Cell___init__) l_14 c_14 k_14).binds (ps := ["self", "holds", "resists"]) (fun _ _ _ _ _ _ us hl => by apply len3 us hl; intros; rfl),
    F_Pack___init__ := fun_mk l_15 c_15 k_15,
    b_Pack___init__ := (fun_mk (st := s_Pack___init__) l_15 c_15 k_15).binds (ps := ["self", "size", "cells"]) (fun _ _ _ _ _ _ us hl => by apply len3 us hl; intros; rfl),
    F_Stock___init__ := fun_mk l_16 c_16 k_16,
    b_Stock___init__ := (fun_mk (st := s_Stock___init__) l_16 c_16 k_16).binds (ps := ["self", "bounds"]) (fun _ _ _ _ _ _ us hl => by apply len2 us hl; intros; rfl),
    F_is_loose := fun_mk l_17 c_17 k_17,
    b_is_loose := (fun_mk (st := s_is_loose) l_17 c_17 k_17).binds (ps := ["cell"]) (fun _ _ _ _ _ _ us hl => by apply len1 us hl; intros; rfl),
    m_is_loose := PySem.W.mg_of X G a_17,
    F_loose_cells := fun_mk l_18 c_18 k_18,
    b_loose_cells := (fun_mk (st := s_loose_cells) l_18 c_18 k_18).binds (ps := ["stock"]) (fun _ _ _ _ _ _ us hl => by apply len1 us hl; intros; rfl),
    m_loose_cells := PySem.W.mg_of X G a_18,
    F_held := fun_mk l_19 c_19 k_19,
    b_held := (fun_mk (st := s_held) l_19 c_19 k_19).binds (ps := ["stock"]) (fun _ _ _ _ _ _ us hl => by apply len1 us hl; intros; rfl),
    m_held := PySem.W.mg_of X G a_19,
    F_grade_of := fun_mk l_20 c_20 k_20,
    b_grade_of := (fun_mk (st := s_grade_of) l_20 c_20 k_20).binds (ps := ["stock", "cell"]) (fun _ _ _ _ _ _ us hl => by apply len2 us hl; intros; rfl),
    m_grade_of := PySem.W.mg_of X G a_20,
    F_free_number := fun_mk l_21 c_21 k_21,
    b_free_number := (fun_mk (st := s_free_number) l_21 c_21 k_21).binds (ps := ["stock"]) (fun _ _ _ _ _ _ us hl => by apply len1 us hl; intros; rfl),
    m_free_number := PySem.W.mg_of X G a_21,
    F_add_pack := fun_mk l_22 c_22 k_22,
    b_add_pack := (fun_mk (st := s_add_pack) l_22 c_22 k_22).binds (ps := ["stock", "size", "cells"]) (fun _ _ _ _ _ _ us hl => by apply len3 us hl; intros; rfl),
    m_add_pack := PySem.W.mg_of X G a_22,
    F_exchange_cells := fun_mk l_23 c_23 k_23,
    b_exchange_cells := (fun_mk (st := s_exchange_cells) l_23 c_23 k_23).binds (ps := ["stock", "i", "j"]) (fun _ _ _ _ _ _ us hl => by apply len3 us hl; intros; rfl),
    m_exchange_cells := PySem.W.mg_of X G a_23,
    F_remove_pack := fun_mk l_24 c_24 k_24,
    b_remove_pack := (fun_mk (st := s_remove_pack) l_24 c_24 k_24).binds (ps := ["stock", "number"]) (fun _ _ _ _ _ _ us hl => by apply len2 us hl; intros; rfl),
    m_remove_pack := PySem.W.mg_of X G a_24,
    F_bounds_as_told := fun_mk l_25 c_25 k_25,
    b_bounds_as_told := (fun_mk (st := s_bounds_as_told) l_25 c_25 k_25).binds (ps := ["bounds"]) (fun _ _ _ _ _ _ us hl => by apply len1 us hl; intros; rfl),
    m_bounds_as_told := PySem.W.mg_of X G a_25,
    F_cell_as_told := fun_mk l_26 c_26 k_26,
    b_cell_as_told := (fun_mk (st := s_cell_as_told) l_26 c_26 k_26).binds (ps := ["holds", "resists"]) (fun _ _ _ _ _ _ us hl => by apply len2 us hl; intros; rfl),
    m_cell_as_told := PySem.W.mg_of X G a_26,
    F_groups_as_told := fun_mk l_27 c_27 k_27,
    b_groups_as_told := (fun_mk (st := s_groups_as_told) l_27 c_27 k_27).binds (ps := ["groups", "size"]) (fun _ _ _ _ _ _ us hl => by apply len2 us hl; intros; rfl),
    m_groups_as_told := PySem.W.mg_of X G a_27,
    F_has_cell := fun_mk l_28 c_28 k_28,
    b_has_cell := (fun_mk (st := s_has_cell) l_28 c_28 k_28).binds (ps := ["stock", "i"]) (fun _ _ _ _ _ _ us hl => by apply len2 us hl; intros; rfl),
    m_has_cell := PySem.W.mg_of X G a_28,
    F_loose_refusal := fun_mk l_29 c_29 k_29,
    b_loose_refusal := (fun_mk (st := s_loose_refusal) l_29 c_29 k_29).binds (ps := ["stock", "i"]) (fun _ _ _ _ _ _ us hl => by apply len2 us hl; intros; rfl),
    m_loose_refusal := PySem.W.mg_of X G a_29,
    F_dealing_refusal := fun_mk l_30 c_30 k_30,
    b_dealing_refusal := (fun_mk (st := s_dealing_refusal) l_30 c_30 k_30).binds (ps := ["stock", "groups", "size"]) (fun _ _ _ _ _ _ us hl => by apply len3 us hl; intros; rfl),
    m_dealing_refusal := PySem.W.mg_of X G a_30,
    F_totals_of := fun_mk l_31 c_31 k_31,
    b_totals_of := (fun_mk (st := s_totals_of) l_31 c_31 k_31).binds (ps := ["stock", "p"]) (fun _ _ _ _ _ _ us hl => by apply len2 us hl; intros; rfl),
    m_totals_of := PySem.W.mg_of X G a_31,
    F_best_of_loose := fun_mk l_32 c_32 k_32,
    b_best_of_loose := (fun_mk (st := s_best_of_loose) l_32 c_32 k_32).binds (ps := ["stock", "groups", "size"]) (fun _ _ _ _ _ _ us hl => by apply len3 us hl; intros; rfl),
    m_best_of_loose := PySem.W.mg_of X G a_32,
    F_add_cell := fun_mk l_33 c_33 k_33,
    b_add_cell := (fun_mk (st := s_add_cell) l_33 c_33 k_33).binds (ps := ["stock", "holds", "resists"]) (fun _ _ _ _ _ _ us hl => by apply len3 us hl; intros; rfl),
    m_add_cell := PySem.W.mg_of X G a_33,
    F_retest_cell := fun_mk l_34 c_34 k_34,
    b_retest_cell := (fun_mk (st := s_retest_cell) l_34 c_34 k_34).binds (ps := ["stock", "i", "holds", "resists"]) (fun _ _ _ _ _ _ us hl => by apply len4 us hl; intros; rfl),
    m_retest_cell := PySem.W.mg_of X G a_34,
    F_scrap_cell := fun_mk l_35 c_35 k_35,
    b_scrap_cell := (fun_mk (st := s_scrap_cell) l_35 c_35 k_35).binds (ps := ["stock", "i"]) (fun _ _ _ _ _ _ us hl => by apply len2 us hl; intros; rfl),
    m_scrap_cell := PySem.W.mg_of X G a_35,
    F_grade_cell := fun_mk l_36 c_36 k_36,
    b_grade_cell := (fun_mk (st := s_grade_cell) l_36 c_36 k_36).binds (ps := ["stock", "i"]) (fun _ _ _ _ _ _ us hl => by apply len2 us hl; intros; rfl),
    m_grade_cell := PySem.W.mg_of X G a_36,
    F_count_grades := fun_mk l_37 c_37 k_37,
    b_count_grades := (fun_mk (st := s_count_grades) l_37 c_37 k_37).binds (ps := ["stock"]) (fun _ _ _ _ _ _ us hl => by apply len1 us hl; intros; rfl),
    m_count_grades := PySem.W.mg_of X G a_37,
    F_match_cells := fun_mk l_38 c_38 k_38,
    b_match_cells := (fun_mk (st := s_match_cells) l_38 c_38 k_38).binds (ps := ["stock", "groups", "size"]) (fun _ _ _ _ _ _ us hl => by apply len3 us hl; intros; rfl),
    m_match_cells := PySem.W.mg_of X G a_38,
    F_build_pack := fun_mk l_39 c_39 k_39,
    b_build_pack := (fun_mk (st := s_build_pack) l_39 c_39 k_39).binds (ps := ["stock", "groups", "size"]) (fun _ _ _ _ _ _ us hl => by apply len3 us hl; intros; rfl),
    m_build_pack := PySem.W.mg_of X G a_39,
    F_could_build := fun_mk l_40 c_40 k_40,
    b_could_build := (fun_mk (st := s_could_build) l_40 c_40 k_40).binds (ps := ["stock", "groups", "size", "asked"]) (fun _ _ _ _ _ _ us hl => by apply len4 us hl; intros; rfl),
    m_could_build := PySem.W.mg_of X G a_40,
    F_tell_pack := fun_mk l_41 c_41 k_41,
    b_tell_pack := (fun_mk (st := s_tell_pack) l_41 c_41 k_41).binds (ps := ["stock", "p"]) (fun _ _ _ _ _ _ us hl => by apply len2 us hl; intros; rfl),
    m_tell_pack := PySem.W.mg_of X G a_41,
    F_tell_strength := fun_mk l_42 c_42 k_42,
    b_tell_strength := (fun_mk (st := s_tell_strength) l_42 c_42 k_42).binds (ps := ["stock", "p"]) (fun _ _ _ _ _ _ us hl => by apply len2 us hl; intros; rfl),
    m_tell_strength := PySem.W.mg_of X G a_42,
    F_tell_weak := fun_mk l_43 c_43 k_43,
    b_tell_weak := (fun_mk (st := s_tell_weak) l_43 c_43 k_43).binds (ps := ["stock", "p"]) (fun _ _ _ _ _ _ us hl => by apply len2 us hl; intros; rfl),
    m_tell_weak := PySem.W.mg_of X G a_43,
    F_tell_lacks := fun_mk l_44 c_44 k_44,
    b_tell_lacks := (fun_mk (st := s_tell_lacks) l_44 c_44 k_44).binds (ps := ["stock", "p"]) (fun _ _ _ _ _ _ us hl => by apply len2 us hl; intros; rfl),
    m_tell_lacks := PySem.W.mg_of X G a_44,
    F_tell_better := fun_mk l_45 c_45 k_45,
    b_tell_better := (fun_mk (st := s_tell_better) l_45 c_45 k_45).binds (ps := ["stock", "p"]) (fun _ _ _ _ _ _ us hl => by apply len2 us hl; intros; rfl),
    m_tell_better := PySem.W.mg_of X G a_45,
    F_exchange := fun_mk l_46 c_46 k_46,
    b_exchange := (fun_mk (st := s_exchange) l_46 c_46 k_46).binds (ps := ["stock", "i", "j"]) (fun _ _ _ _ _ _ us hl => by apply len3 us hl; intros; rfl),
    m_exchange := PySem.W.mg_of X G a_46,
    F_tell_resists := fun_mk l_47 c_47 k_47,
    b_tell_resists := (fun_mk (st := s_tell_resists) l_47 c_47 k_47).binds (ps := ["stock", "p"]) (fun _ _ _ _ _ _ us hl => by apply len2 us hl; intros; rfl),
    m_tell_resists := PySem.W.mg_of X G a_47,
    F_tell_near := fun_mk l_48 c_48 k_48,
    b_tell_near := (fun_mk (st := s_tell_near) l_48 c_48 k_48).binds (ps := ["stock"]) (fun _ _ _ _ _ _ us hl => by apply len1 us hl; intros; rfl),
    m_tell_near := PySem.W.mg_of X G a_48,
    F_tell_loose := fun_mk l_49 c_49 k_49,
    b_tell_loose := (fun_mk (st := s_tell_loose) l_49 c_49 k_49).binds (ps := ["stock"]) (fun _ _ _ _ _ _ us hl => by apply len1 us hl; intros; rfl),
    m_tell_loose := PySem.W.mg_of X G a_49,
    F_retire_pack := fun_mk l_50 c_50 k_50,
    b_retire_pack := (fun_mk (st := s_retire_pack) l_50 c_50 k_50).binds (ps := ["stock", "p"]) (fun _ _ _ _ _ _ us hl => by apply len2 us hl; intros; rfl),
    m_retire_pack := PySem.W.mg_of X G a_50,
    F_look_at_cell := fun_mk l_51 c_51 k_51,
    b_look_at_cell := (fun_mk (st := s_look_at_cell) l_51 c_51 k_51).binds (ps := ["stock", "i"]) (fun _ _ _ _ _ _ us hl => by apply len2 us hl; intros; rfl),
    m_look_at_cell := PySem.W.mg_of X G a_51,
    F_tell_state := fun_mk l_52 c_52 k_52,
    b_tell_state := (fun_mk (st := s_tell_state) l_52 c_52 k_52).binds (ps := ["stock"]) (fun _ _ _ _ _ _ us hl => by apply len1 us hl; intros; rfl),
    m_tell_state := PySem.W.mg_of X G a_52,
    F_split_calls := fun_mk l_53 c_53 k_53,
    b_split_calls := (fun_mk (st := s_split_calls) l_53 c_53 k_53).binds (ps := ["calls"]) (fun _ _ _ _ _ _ us hl => by apply len1 us hl; intros; rfl),
    m_split_calls := PySem.W.mg_of X G a_53,
    F_answer_call := fun_mk l_54 c_54 k_54,
    b_answer_call := (fun_mk (st := s_answer_call) l_54 c_54 k_54).binds (ps := ["stock", "number", "handed"]) (fun _ _ _ _ _ _ us hl => by apply len3 us hl; intros; rfl),
    m_answer_call := PySem.W.mg_of X G a_54,
    F_answers := fun_mk l_55 c_55 k_55,
    b_answers := (fun_mk (st := s_answers) l_55 c_55 k_55).binds (ps := ["calls"]) (fun _ _ _ _ _ _ us hl => by apply len1 us hl; intros; rfl),
    m_answers := PySem.W.mg_of X G a_55,
    m_Cell := PySem.W.mg_of X G a_Cell,
    M_Cell := ⟨mk_Cell, a_14, i_14, kc_Cell⟩,
    C_Cell := ⟨pg_Cell, hd_Cell, po_Cell, sa_Cell⟩,
    n_Cell_holds := n_Cell_holds,
    n_Cell_resists := n_Cell_resists,
    n_Cell_pack := n_Cell_pack,
    n_Cell_scrap := n_Cell_scrap,
    m_Pack := PySem.W.mg_of X G a_Pack,
    M_Pack := ⟨mk_Pack, a_15, i_15, kc_Pack⟩,
    C_Pack := ⟨pg_Pack, hd_Pack, po_Pack, sa_Pack⟩,
    n_Pack_size := n_Pack_size,
    n_Pack_cells := n_Pack_cells,
    m_Stock := PySem.W.mg_of X G a_Stock,
    M_Stock := ⟨mk_Stock, a_16, i_16, kc_Stock⟩,
    C_Stock := ⟨pg_Stock, hd_Stock, po_Stock, sa_Stock⟩,
    n_Stock_bounds := n_Stock_bounds,
    n_Stock_cells := n_Stock_cells,
    n_Stock_packs := n_Stock_packs,
    x_Cell_Pack := x_Cell_Pack,
    x_Cell_Stock := x_Cell_Stock,
    x_Pack_Stock := x_Pack_Stock,
    m_HANDED := PySem.W.mg_of X G a_HANDED,
    D_HANDED := ⟨⟨_, ep_HANDED, [(Sum.inl 1, .int 2 tv_HANDED_0), (Sum.inl 2, .int 3 tv_HANDED_1), (Sum.inl 3, .int 1 tv_HANDED_2), (Sum.inl 4, .int 1 tv_HANDED_3), (Sum.inl 5, .int 0 tv_HANDED_4), (Sum.inl 6, .int 2 tv_HANDED_5), (Sum.inl 7, .int 2 tv_HANDED_6), (Sum.inl 8, .int 3 tv_HANDED_7), (Sum.inl 9, .int 1 tv_HANDED_8), (Sum.inl 10, .int 1 tv_HANDED_9), (Sum.inl 11, .int 1 tv_HANDED_10), (Sum.inl 12, .int 1 tv_HANDED_11), (Sum.inl 13, .int 1 tv_HANDED_12), (Sum.inl 14, .int 2 tv_HANDED_13), (Sum.inl 15, .int 1 tv_HANDED_14), (Sum.inl 16, .int 0 tv_HANDED_15), (Sum.inl 17, .int 0 tv_HANDED_16), (Sum.inl 18, .int 1 tv_HANDED_17), (Sum.inl 19, .int 1 tv_HANDED_18), (Sum.inl 20, .int 0 tv_HANDED_19)], l_HANDED, .cons ⟨rfl, ⟨_, rfl⟩⟩ (.cons ⟨rfl, ⟨_, rfl⟩⟩ (.cons ⟨rfl, ⟨_, rfl⟩⟩ (.cons ⟨rfl, ⟨_, rfl⟩⟩ (.cons ⟨rfl, ⟨_, rfl⟩⟩ (.cons ⟨rfl, ⟨_, rfl⟩⟩ (.cons ⟨rfl, ⟨_, rfl⟩⟩ (.cons ⟨rfl, ⟨_, rfl⟩⟩ (.cons ⟨rfl, ⟨_, rfl⟩⟩ (.cons ⟨rfl, ⟨_, rfl⟩⟩ (.cons ⟨rfl, ⟨_, rfl⟩⟩ (.cons ⟨rfl, ⟨_, rfl⟩⟩ (.cons ⟨rfl, ⟨_, rfl⟩⟩ (.cons ⟨rfl, ⟨_, rfl⟩⟩ (.cons ⟨rfl, ⟨_, rfl⟩⟩ (.cons ⟨rfl, ⟨_, rfl⟩⟩ (.cons ⟨rfl, ⟨_, rfl⟩⟩ (.cons ⟨rfl, ⟨_, rfl⟩⟩ (.cons ⟨rfl, ⟨_, rfl⟩⟩ (.cons ⟨rfl, ⟨_, rfl⟩⟩ (.nil)))))))))))))))))))), fun P w => ⟨fun e he => by
      simp only [List.mem_toArray, List.mem_cons, List.not_mem_nil, or_false] at he
      rcases he with rfl | rfl | rfl | rfl | rfl | rfl | rfl | rfl | rfl | rfl | rfl | rfl | rfl | rfl | rfl | rfl | rfl | rfl | rfl | rfl
      all_goals exact ⟨Sum.inl _, mixKind_int _ _ _ _, by with_unfolding_all rfl⟩, .cons (mixKind_int _ _ _ _) rfl (.cons (mixKind_int _ _ _ _) rfl (.cons (mixKind_int _ _ _ _) rfl (.cons (mixKind_int _ _ _ _) rfl (.cons (mixKind_int _ _ _ _) rfl (.cons (mixKind_int _ _ _ _) rfl (.cons (mixKind_int _ _ _ _) rfl (.cons (mixKind_int _ _ _ _) rfl (.cons (mixKind_int _ _ _ _) rfl (.cons (mixKind_int _ _ _ _) rfl (.cons (mixKind_int _ _ _ _) rfl (.cons (mixKind_int _ _ _ _) rfl (.cons (mixKind_int _ _ _ _) rfl (.cons (mixKind_int _ _ _ _) rfl (.cons (mixKind_int _ _ _ _) rfl (.cons (mixKind_int _ _ _ _) rfl (.cons (mixKind_int _ _ _ _) rfl (.cons (mixKind_int _ _ _ _) rfl (.cons (mixKind_int _ _ _ _) rfl (.cons (mixKind_int _ _ _ _) rfl (.nil))))))))))))))))))))⟩, by show ([Sum.inl 1, Sum.inl 2, Sum.inl 3, Sum.inl 4, Sum.inl 5, Sum.inl 6, Sum.inl 7, Sum.inl 8, Sum.inl 9, Sum.inl 10, Sum.inl 11, Sum.inl 12, Sum.inl 13, Sum.inl 14, Sum.inl 15, Sum.inl 16, Sum.inl 17, Sum.inl 18, Sum.inl 19, Sum.inl 20] : List Key).Nodup; decide⟩, s_HANDED⟩,
    m_ACTIONS := PySem.W.mg_of X G a_ACTIONS,
    D_ACTIONS := ⟨⟨_, ep_ACTIONS, [(Sum.inl 1, .ref f_33), (Sum.inl 2, .ref f_34), (Sum.inl 3, .ref f_35), (Sum.inl 4, .ref f_36), (Sum.inl 5, .ref f_37), (Sum.inl 6, .ref f_38), (Sum.inl 7, .ref f_39), (Sum.inl 8, .ref f_40), (Sum.inl 9, .ref f_41), (Sum.inl 10, .ref f_42), (Sum.inl 11, .ref f_43), (Sum.inl 12, .ref f_44), (Sum.inl 13, .ref f_45), (Sum.inl 14, .ref f_46), (Sum.inl 15, .ref f_47), (Sum.inl 16, .ref f_48), (Sum.inl 17, .ref f_49), (Sum.inl 18, .ref f_50), (Sum.inl 19, .ref f_51), (Sum.inl 20, .ref f_52)], l_ACTIONS, .cons ⟨rfl, rfl⟩ (.cons ⟨rfl, rfl⟩ (.cons ⟨rfl, rfl⟩ (.cons ⟨rfl, rfl⟩ (.cons ⟨rfl, rfl⟩ (.cons ⟨rfl, rfl⟩ (.cons ⟨rfl, rfl⟩ (.cons ⟨rfl, rfl⟩ (.cons ⟨rfl, rfl⟩ (.cons ⟨rfl, rfl⟩ (.cons ⟨rfl, rfl⟩ (.cons ⟨rfl, rfl⟩ (.cons ⟨rfl, rfl⟩ (.cons ⟨rfl, rfl⟩ (.cons ⟨rfl, rfl⟩ (.cons ⟨rfl, rfl⟩ (.cons ⟨rfl, rfl⟩ (.cons ⟨rfl, rfl⟩ (.cons ⟨rfl, rfl⟩ (.cons ⟨rfl, rfl⟩ (.nil)))))))))))))))))))), fun P w => ⟨fun e he => by
      simp only [List.mem_toArray, List.mem_cons, List.not_mem_nil, or_false] at he
      rcases he with rfl | rfl | rfl | rfl | rfl | rfl | rfl | rfl | rfl | rfl | rfl | rfl | rfl | rfl | rfl | rfl | rfl | rfl | rfl | rfl
      all_goals exact ⟨Sum.inl _, mixKind_int _ _ _ _, by with_unfolding_all rfl⟩, .cons (mixKind_int _ _ _ _) rfl (.cons (mixKind_int _ _ _ _) rfl (.cons (mixKind_int _ _ _ _) rfl (.cons (mixKind_int _ _ _ _) rfl (.cons (mixKind_int _ _ _ _) rfl (.cons (mixKind_int _ _ _ _) rfl (.cons (mixKind_int _ _ _ _) rfl (.cons (mixKind_int _ _ _ _) rfl (.cons (mixKind_int _ _ _ _) rfl (.cons (mixKind_int _ _ _ _) rfl (.cons (mixKind_int _ _ _ _) rfl (.cons (mixKind_int _ _ _ _) rfl (.cons (mixKind_int _ _ _ _) rfl (.cons (mixKind_int _ _ _ _) rfl (.cons (mixKind_int _ _ _ _) rfl (.cons (mixKind_int _ _ _ _) rfl (.cons (mixKind_int _ _ _ _) rfl (.cons (mixKind_int _ _ _ _) rfl (.cons (mixKind_int _ _ _ _) rfl (.cons (mixKind_int _ _ _ _) rfl (.nil))))))))))))))))))))⟩, by show ([Sum.inl 1, Sum.inl 2, Sum.inl 3, Sum.inl 4, Sum.inl 5, Sum.inl 6, Sum.inl 7, Sum.inl 8, Sum.inl 9, Sum.inl 10, Sum.inl 11, Sum.inl 12, Sum.inl 13, Sum.inl 14, Sum.inl 15, Sum.inl 16, Sum.inl 17, Sum.inl 18, Sum.inl 19, Sum.inl 20] : List Key).Nodup; decide⟩, s_ACTIONS⟩,
    m_MOST_BOUNDS := ⟨_, PySem.W.mg_of X G a_MOST_BOUNDS⟩,
    m_MOST_CELLS := ⟨_, PySem.W.mg_of X G a_MOST_CELLS⟩,
    m_MOST_HELD := ⟨_, PySem.W.mg_of X G a_MOST_HELD⟩,
    m_MOST_RESISTED := ⟨_, PySem.W.mg_of X G a_MOST_RESISTED⟩,
    m_MOST_GROUPS := ⟨_, PySem.W.mg_of X G a_MOST_GROUPS⟩,
    m_MOST_IN_GROUP := ⟨_, PySem.W.mg_of X G a_MOST_IN_GROUP⟩,
    m_MOST_DEALT := ⟨_, PySem.W.mg_of X G a_MOST_DEALT⟩,
    m_NO_SUCH := ⟨_, PySem.W.mg_of X G a_NO_SUCH⟩,
    m_NOT_PACKED := ⟨_, PySem.W.mg_of X G a_NOT_PACKED⟩,
    m_NOT_STARTED := ⟨_, PySem.W.mg_of X G a_NOT_STARTED⟩,
    m_TOO_FEW := ⟨_, PySem.W.mg_of X G a_TOO_FEW⟩,
    m_NOT_LOOSE := ⟨_, PySem.W.mg_of X G a_NOT_LOOSE⟩,
    m_NOT_AS_TOLD := ⟨_, PySem.W.mg_of X G a_NOT_AS_TOLD⟩,
    m_FULL := ⟨_, PySem.W.mg_of X G a_FULL⟩,
    m_NO_BETTER := ⟨_, PySem.W.mg_of X G a_NO_BETTER⟩,
    m_START := ⟨_, PySem.W.mg_of X G a_START⟩,
    b_abs := PySem.W.mg_none_of X G b_abs,
    b_enumerate := PySem.W.mg_none_of X G b_enumerate,
    b_len := PySem.W.mg_none_of X G b_len,
    b_max := PySem.W.mg_none_of X G b_max,
    b_min := PySem.W.mg_none_of X G b_min,
    b_range := PySem.W.mg_none_of X G b_range,
    b_sum := PySem.W.mg_none_of X G b_sum }⟩
end CP
end

section
open PySem PySem.W PyProof.Rows
set_option Elab.async false
set_option linter.all false
set_option maxRecDepth 100000
namespace CP
theorem all_mk {P : Program} {w : World} {K : PySem.W.Frag} {mg : Str → Option Value} {fa : Addr} (h : ∃ A : Ad, Txt K mg A) (hfa : mg "answers" = some (.ref fa)) :
    ∃ fd : FuncData, (∀ (s : Shared) (us : List Value), us.length = (["calls"] : List Str).length → BindsTo s fd ⟨us, []⟩ ((["calls"] : List Str).zip us)) ∧ ∀ base : Heap, K.In base → base.Ns mainGlobals mg → L2.FnOk P w K mg base L2.CX0 8 fa fd ["calls"] (spAns K) := by
  obtain ⟨A, T⟩ := h
  have e := hfa.symm.trans T.m_answers
  cases e
  refine ⟨A.fd_answers, fun s us hu => ?_, fun base _ _ => ok_answers T⟩
  obtain ⟨oc, od, kV, doc, pm, an, cdv, ct, osl, e, _, _⟩ := T.F_answers.ex
  rw [e]
  match us, hu with
  | [_], _ => exact .of_eq rfl
end CP
def PySem.W.Fast.tw2859631052533612681 : Unit := ()
def PySem.W.Fast.tw1617960726078061807 : Unit := ()
def PySem.W.Fast.tw3075059676194637517 : Unit := ()
def PySem.W.Fast.tw7414314405683493679 : Unit := ()
def PySem.W.Fast.tw14954667837752923859 : Unit := ()
def PySem.W.Fast.tw13801840436668092328 : Unit := ()
def PySem.W.Fast.tw14654888567254739007 : Unit := ()
def PySem.W.Fast.tw12420809593428055438 : Unit := ()
def PySem.W.Fast.tw11408451955599133790 : Unit := ()
def PySem.W.Fast.tw1819915971967260953 : Unit := ()
def PySem.W.Fast.tw12340228111158718419 : Unit := ()
def PySem.W.Fast.tw11765241430735904317 : Unit := ()
set_option maxRecDepth 100000 in
set_option maxHeartbeats 0 in
theorem PySem.Challenge.cw_cellpacks_s01_answers_holds : PySem.Challenge.rw_cellpacks_s01_answers.Holds := by
  w_on; k_headS; (case hw => exact ⟨[.list [.int 17]], by decide +kernel, by decide +kernel⟩)
  k_fillS
  refine L2.walk_specK (r := PySem.Challenge.rw_cellpacks_s01_answers) (k := 8) (CX := L2.CX0) (ps := ["calls"]) (sp := CP.spAns) (by decide +kernel) rfl rfl ⟨rfl, by decide, by decide⟩ (fun w h Y => PySem.W.kIn_of Y) ?F ?S (fun _ _ _ _ z => z)
  case F =>
    intro w mg fa h Y KX G hmg
    refine CP.all_mk ?_ hmg
    refine' CP.txt_mk KX G ?a_Cell ?a_Pack ?a_Stock ?a_0 ?l_0 ?c_0 ?k_0 ?a_1 ?l_1 ?c_1 ?k_1 ?a_2 ?l_2 ?c_2 ?k_2 ?a_3 ?l_3 ?c_3 ?k_3 ?a_4 ?l_4 ?c_4 ?k_4 ?a_5 ?l_5 ?c_5 ?k_5 ?a_6 ?l_6 ?c_6 ?k_6 ?a_7 ?l_7 ?c_7 ?k_7 ?a_8 ?l_8 ?c_8 ?k_8 ?a_9 ?l_9 ?c_9 ?k_9 ?a_10 ?l_10 ?c_10 ?k_10 ?a_11 ?l_11 ?c_11 ?k_11 ?a_12 ?l_12 ?c_12 ?k_12 ?a_13 ?l_13 ?c_13 ?k_13 ?a_14 ?i_14 ?l_14 ?c_14 ?k_14 ?a_15 ?i_15 ?l_15 ?c_15 ?k_15 ?a_16 ?i_16 ?l_16 ?c_16 ?k_16 ?a_17 ?l_17 ?c_17 ?k_17 ?a_18 ?l_18 ?c_18 ?k_18 ?a_19 ?l_19 ?c_19 ?k_19 ?a_20 ?l_20 ?c_20 ?k_20 ?a_21 ?l_21 ?c_21 ?k_21 ?a_22 ?l_22 ?c_22 ?k_22 ?a_23 ?l_23 ?c_23 ?k_23 ?a_24 ?l_24 ?c_24 ?k_24 ?a_25 ?l_25 ?c_25 ?k_25 ?a_26 ?l_26 ?c_26 ?k_26 ?a_27 ?l_27 ?c_27 ?k_27 ?a_28 ?l_28 ?c_28 ?k_28 ?a_29 ?l_29 ?c_29 ?k_29 ?a_30 ?l_30 ?c_30 ?k_30 ?a_31 ?l_31 ?c_31 ?k_31 ?a_32 ?l_32 ?c_32 ?k_32 ?a_33 ?l_33 ?c_33 ?k_33 ?a_34 ?l_34 ?c_34 ?k_34 ?a_35 ?l_35 ?c_35 ?k_35 ?a_36 ?l_36 ?c_36 ?k_36 ?a_37 ?l_37 ?c_37 ?k_37 ?a_38 ?l_38 ?c_38 ?k_38 ?a_39 ?l_39 ?c_39 ?k_39 ?a_40 ?l_40 ?c_40 ?k_40 ?a_41 ?l_41 ?c_41 ?k_41 ?a_42 ?l_42 ?c_42 ?k_42 ?a_43 ?l_43 ?c_43 ?k_43 ?a_44 ?l_44 ?c_44 ?k_44 ?a_45 ?l_45 ?c_45 ?k_45 ?a_46 ?l_46 ?c_46 ?k_46 ?a_47 ?l_47 ?c_47 ?k_47 ?a_48 ?l_48 ?c_48 ?k_48 ?a_49 ?l_49 ?c_49 ?k_49 ?a_50 ?l_50 ?c_50 ?k_50 ?a_51 ?l_51 ?c_51 ?k_51 ?a_52 ?l_52 ?c_52 ?k_52 ?a_53 ?l_53 ?c_53 ?k_53 ?a_54 ?l_54 ?c_54 ?k_54 ?a_55 ?l_55 ?c_55 ?k_55 ?pg_Cell ?hd_Cell ?po_Cell ?sa_Cell ?mk_Cell ?kc_Cell ?n_Cell_holds ?n_Cell_resists ?n_Cell_pack ?n_Cell_scrap ?pg_Pack ?hd_Pack ?po_Pack ?sa_Pack ?mk_Pack ?kc_Pack ?n_Pack_size ?n_Pack_cells ?pg_Stock ?hd_Stock ?po_Stock ?sa_Stock ?mk_Stock ?kc_Stock ?n_Stock_bounds ?n_Stock_cells ?n_Stock_packs ?x_Cell_Pack ?x_Cell_Stock ?x_Pack_Stock ?a_HANDED ?l_HANDED ?s_HANDED ?a_ACTIONS ?l_ACTIONS ?s_ACTIONS ?a_MOST_BOUNDS ?a_MOST_CELLS ?a_MOST_HELD ?a_MOST_RESISTED ?a_MOST_GROUPS ?a_MOST_IN_GROUP ?a_MOST_DEALT ?a_NO_SUCH ?a_NOT_PACKED ?a_NOT_STARTED ?a_TOO_FEW ?a_NOT_LOOSE ?a_NOT_AS_TOLD ?a_FULL ?a_NO_BETTER ?a_START ?b_abs ?b_enumerate ?b_len ?b_max ?b_min ?b_range ?b_sum
    (case a_Cell => k_is)
    (case a_Pack => k_is)
    (case a_Stock => k_is)
    (case a_0 => k_is)
    (case l_0 => k_is)
    (case c_0 => k_is)
    (case k_0 => k_is)
    (case a_1 => k_is)
    (case l_1 => k_is)
    (case c_1 => k_is)
    (case k_1 => k_is)
    (case a_2 => k_is)
    (case l_2 => k_is)
    (case c_2 => k_is)
    (case k_2 => k_is)
    (case a_3 => k_is)
    (case l_3 => k_is)
    (case c_3 => k_is)
    (case k_3 => k_is)
    (case a_4 => k_is)
    (case l_4 => k_is)
    (case c_4 => k_is)
    (case k_4 => k_is)
    (case a_5 => k_is)
    (case l_5 => k_is)
    (case c_5 => k_is)
    (case k_5 => k_is)
    (case a_6 => k_is)
    (case l_6 => k_is)
    (case c_6 => k_is)
    (case k_6 => k_is)
    (case a_7 => k_is)
    (case l_7 => k_is)
    (case c_7 => k_is)
    (case k_7 => k_is)
    (case a_8 => k_is)
    (case l_8 => k_is)
    (case c_8 => k_is)
    (case k_8 => k_is)
    (case a_9 => k_is)
    (case l_9 => k_is)
    (case c_9 => k_is)
    (case k_9 => k_is)
    (case a_10 => k_is)
    (case l_10 => k_is)
    (case c_10 => k_is)
    (case k_10 => k_is)
    (case a_11 => k_is)
    (case l_11 => k_is)
    (case c_11 => k_is)
    (case k_11 => k_is)
    (case a_12 => k_is)
    (case l_12 => k_is)
    (case c_12 => k_is)
    (case k_12 => k_is)
    (case a_13 => k_is)
    (case l_13 => k_is)
    (case c_13 => k_is)
    (case k_13 => k_is)
    (case a_14 => k_is)
    (case i_14 => k_is)
    (case l_14 => k_is)
    (case c_14 => k_is)
    (case k_14 => k_is)
    (case a_15 => k_is)
    (case i_15 => k_is)
    (case l_15 => k_is)
    (case c_15 => k_is)
    (case k_15 => k_is)
    (case a_16 => k_is)
    (case i_16 => k_is)
    (case l_16 => k_is)
    (case c_16 => k_is)
    (case k_16 => k_is)
    (case a_17 => k_is)
    (case l_17 => k_is)
    (case c_17 => k_is)
    (case k_17 => k_is)
    (case a_18 => k_is)
    (case l_18 => k_is)
    (case c_18 => k_is)
    (case k_18 => k_is)
    (case a_19 => k_is)
    (case l_19 => k_is)
    (case c_19 => k_is)
    (case k_19 => k_is)
    (case a_20 => k_is)
    (case l_20 => k_is)
    (case c_20 => k_is)
    (case k_20 => k_is)
    (case a_21 => k_is)
    (case l_21 => k_is)
    (case c_21 => k_is)
    (case k_21 => k_is)
    (case a_22 => k_is)
    (case l_22 => k_is)
    (case c_22 => k_is)
    (case k_22 => k_is)
    (case a_23 => k_is)
    (case l_23 => k_is)
    (case c_23 => k_is)
    (case k_23 => k_is)
    (case a_24 => k_is)
    (case l_24 => k_is)
    (case c_24 => k_is)
    (case k_24 => k_is)
    (case a_25 => k_is)
    (case l_25 => k_is)
    (case c_25 => k_is)
    (case k_25 => k_is)
    (case a_26 => k_is)
    (case l_26 => k_is)
    (case c_26 => k_is)
    (case k_26 => k_is)
    (case a_27 => k_is)
    (case l_27 => k_is)
    (case c_27 => k_is)
    (case k_27 => k_is)
    (case a_28 => k_is)
    (case l_28 => k_is)
    (case c_28 => k_is)
    (case k_28 => k_is)
    (case a_29 => k_is)
    (case l_29 => k_is)
    (case c_29 => k_is)
    (case k_29 => k_is)
    (case a_30 => k_is)
    (case l_30 => k_is)
    (case c_30 => k_is)
    (case k_30 => k_is)
    (case a_31 => k_is)
    (case l_31 => k_is)
    (case c_31 => k_is)
    (case k_31 => k_is)
    (case a_32 => k_is)
    (case l_32 => k_is)
    (case c_32 => k_is)
    (case k_32 => k_is)
    (case a_33 => k_is)
    (case l_33 => k_is)
    (case c_33 => k_is)
    (case k_33 => k_is)
    (case a_34 => k_is)
    (case l_34 => k_is)
    (case c_34 => k_is)
    (case k_34 => k_is)
    (case a_35 => k_is)
    (case l_35 => k_is)
    (case c_35 => k_is)
    (case k_35 => k_is)
    (case a_36 => k_is)
    (case l_36 => k_is)
    (case c_36 => k_is)
    (case k_36 => k_is)
    (case a_37 => k_is)
    (case l_37 => k_is)
    (case c_37 => k_is)
    (case k_37 => k_is)
    (case a_38 => k_is)
    (case l_38 => k_is)
    (case c_38 => k_is)
    (case k_38 => k_is)
    (case a_39 => k_is)
    (case l_39 => k_is)
    (case c_39 => k_is)
    (case k_39 => k_is)
    (case a_40 => k_is)
    (case l_40 => k_is)
    (case c_40 => k_is)
    (case k_40 => k_is)
    (case a_41 => k_is)
    (case l_41 => k_is)
    (case c_41 => k_is)
    (case k_41 => k_is)
    (case a_42 => k_is)
    (case l_42 => k_is)
    (case c_42 => k_is)
    (case k_42 => k_is)
    (case a_43 => k_is)
    (case l_43 => k_is)
    (case c_43 => k_is)
    (case k_43 => k_is)
    (case a_44 => k_is)
    (case l_44 => k_is)
    (case c_44 => k_is)
    (case k_44 => k_is)
    (case a_45 => k_is)
    (case l_45 => k_is)
    (case c_45 => k_is)
    (case k_45 => k_is)
    (case a_46 => k_is)
    (case l_46 => k_is)
    (case c_46 => k_is)
    (case k_46 => k_is)
    (case a_47 => k_is)
    (case l_47 => k_is)
    (case c_47 => k_is)
    (case k_47 => k_is)
    (case a_48 => k_is)
    (case l_48 => k_is)
    (case c_48 => k_is)
    (case k_48 => k_is)
    (case a_49 => k_is)
    (case l_49 => k_is)
    (case c_49 => k_is)
    (case k_49 => k_is)
    (case a_50 => k_is)
    (case l_50 => k_is)
    (case c_50 => k_is)
    (case k_50 => k_is)
    (case a_51 => k_is)
    (case l_51 => k_is)
    (case c_51 => k_is)
    (case k_51 => k_is)
    (case a_52 => k_is)
    (case l_52 => k_is)
    (case c_52 => k_is)
    (case k_52 => k_is)
    (case a_53 => k_is)
    (case l_53 => k_is)
    (case c_53 => k_is)
    (case k_53 => k_is)
    (case a_54 => k_is)
    (case l_54 => k_is)
    (case c_54 => k_is)
    (case k_54 => k_is)
    (case a_55 => k_is)
    (case l_55 => k_is)
    (case c_55 => k_is)
    (case k_55 => k_is)
    (case pg_Cell => k_is)
    (case hd_Cell => k_is)
    (case po_Cell => k_is)
    (case sa_Cell => k_is)
    (case mk_Cell => k_is)
    (case kc_Cell => k_is)
    (case n_Cell_holds => k_is)
    (case n_Cell_resists => k_is)
    (case n_Cell_pack => k_is)
    (case n_Cell_scrap => k_is)
    (case pg_Pack => k_is)
    (case hd_Pack => k_is)
    (case po_Pack => k_is)
    (case sa_Pack => k_is)
    (case mk_Pack => k_is)
    (case kc_Pack => k_is)
    (case n_Pack_size => k_is)
    (case n_Pack_cells => k_is)
    (case pg_Stock => k_is)
    (case hd_Stock => k_is)
    (case po_Stock => k_is)
    (case sa_Stock => k_is)
    (case mk_Stock => k_is)
    (case kc_Stock => k_is)
    (case n_Stock_bounds => k_is)
    (case n_Stock_cells => k_is)
    (case n_Stock_packs => k_is)
    (case x_Cell_Pack => decide)
    (case x_Cell_Stock => decide)
    (case x_Pack_Stock => decide)
    (case a_HANDED => k_is)
    (case l_HANDED => k_is)
    (case s_HANDED => rfl)
    (case a_ACTIONS => k_is)
    (case l_ACTIONS => k_is)
    (case s_ACTIONS => rfl)
    (case a_MOST_BOUNDS => k_is)
    (case a_MOST_CELLS => k_is)
    (case a_MOST_HELD => k_is)
    (case a_MOST_RESISTED => k_is)
    (case a_MOST_GROUPS => k_is)
    (case a_MOST_IN_GROUP => k_is)
    (case a_MOST_DEALT => k_is)
    (case a_NO_SUCH => k_is)
    (case a_NOT_PACKED => k_is)
    (case a_NOT_STARTED => k_is)
    (case a_TOO_FEW => k_is)
    (case a_NOT_LOOSE => k_is)
    (case a_NOT_AS_TOLD => k_is)
    (case a_FULL => k_is)
    (case a_NO_BETTER => k_is)
    (case a_START => k_is)
    (case b_abs => k_is)
    (case b_enumerate => k_is)
    (case b_len => k_is)
    (case b_max => k_is)
    (case b_min => k_is)
    (case b_range => k_is)
    (case b_sum => k_is)
  case S =>
    intro K H xs a hO hwi hask hx
    cases hx with
    | cons h1 h2 =>
      cases h2
      cases h1 with
      | lst hs ha =>
        have e := L2.ints_dw a.1 _ ha
        subst e
        have q : ((Codec.inLen 0 12500 a.1 && a.1.all (Codec.inInt 0 4294967295)) && true) = true := hwi
        rw [Bool.and_eq_true, Bool.and_eq_true] at q
        refine ⟨_, a.1, rfl, hs, hask, (Codec.inNat_iff.mp q.1.1).2, fun x hx => ?_, fun H' p hp => .lst (L2.SqL.of hp) (L2.dw_ints _)⟩
        exact Codec.inInt_iff.mp (List.all_eq_true.mp q.1.2 x hx)
end
