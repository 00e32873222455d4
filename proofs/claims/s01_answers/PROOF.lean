import PyProof.Rows.All
import Wide.All
import OpenK.AllK
import Wide.FinOn
import PyProof.EqAt
import PyProof.EqKinds
import PyProof.TupleCall
import KE.BitLaws
import Open.SpecLaws
import KE.OsHead
import KE.OsGo
import KE.KSortTupG
import KE.KSortKeyAny
import KE.KLam
import PySem.Challenge.RW_namestands_s01_answers
import PyKct4
import KE.KDictLaws
section
set_option Elab.async false
set_option linter.all false
set_option maxRecDepth 100000
namespace L2
open PySem PySem.Spec PyProof.Rows
abbrev Key := Sum Int Str
def keyIs : Key → Value → Bool
  | .inl k, v => Value.isInt k v
  | .inr x, v => Value.isStrOf x v
def keyH (w : World) : Key → Int
  | .inl k => hashInt k
  | .inr x => hashStr w x
theorem keyIs_shape : ∀ {k : Key} {v : Value}, keyIs k v = true → (∃ i t, k = Sum.inl i ∧ v = Value.int i t) ∨ (∃ x t, k = Sum.inr x ∧ v = Value.str x t)
  | .inl i, v, h => by
    obtain ⟨t, e⟩ := Value.isInt_shape (k := i) (v := v) h
    exact .inl ⟨i, t, rfl, e⟩
  | .inr x, v, h => by
    obtain ⟨t, e⟩ := Value.isStrOf_shape (x := x) (v := v) h
    exact .inr ⟨x, t, rfl, e⟩
theorem keyIs_int (i : Int) (t : Tok) : keyIs (.inl i) (.int i t) = true := by simp [keyIs, Value.isInt]
theorem keyIs_str (x : Str) (t : Tok) : keyIs (.inr x) (.str x t) = true := by simp [keyIs, Value.isStrOf]
theorem key_ll (a b : Int) : decide ((Sum.inl a : Key) = Sum.inl b) = (a == b) := by
  by_cases e : a = b
  · subst e; simp
  · have h : ¬ (Sum.inl a : Key) = Sum.inl b := fun q => e (Sum.inl.inj q)
    rw [decide_eq_false h]
    exact (beq_eq_false_iff_ne.mpr e).symm
theorem key_rr (a b : Str) : decide ((Sum.inr a : Key) = Sum.inr b) = decide (a = b) := by
  by_cases e : a = b
  · subst e; simp
  · have h : ¬ (Sum.inr a : Key) = Sum.inr b := fun q => e (Sum.inr.inj q)
    rw [decide_eq_false h, decide_eq_false e]
theorem key_lr (a : Int) (b : Str) : decide ((Sum.inl a : Key) = Sum.inr b) = false := decide_eq_false (fun q => nomatch q)
theorem key_rl (a : Str) (b : Int) : decide ((Sum.inr a : Key) = Sum.inl b) = false := decide_eq_false (fun q => nomatch q)
def mixKind (prog : Program) (w : World) : PySem.KeyKind prog w Key where
  is := keyIs
  hash := keyH w
  inj := fun v a b ha hb => by
    rcases keyIs_shape ha with ⟨i, t, rfl, rfl⟩ | ⟨x, t, rfl, rfl⟩
    · rcases keyIs_shape hb with ⟨j, u, rfl, e⟩ | ⟨y, u, rfl, e⟩
      · injection e with e1 _; rw [e1]
      · exact nomatch e
    · rcases keyIs_shape hb with ⟨j, u, rfl, e⟩ | ⟨y, u, rfl, e⟩
      · exact nomatch e
      · injection e with e1 _; rw [e1]
  byValue := fun k v h => by
    rcases keyIs_shape h with ⟨i, t, rfl, rfl⟩ | ⟨x, t, rfl, rfl⟩ <;> rfl
  pyHash := fun hv h => by
    rcases keyIs_shape hv with ⟨i, t, rfl, rfl⟩ | ⟨x, t, rfl, rfl⟩
    · exact wpAny_pyHash_int h
    · exact wpAny_pyHash_str h
  eqBool := fun hu hv h => by
    rcases keyIs_shape hu with ⟨i, t, rfl, rfl⟩ | ⟨x, t, rfl, rfl⟩
    · rcases keyIs_shape hv with ⟨j, u, rfl, rfl⟩ | ⟨y, u, rfl, rfl⟩
      · rw [key_ll] at h; exact wpAny_eqBool_int h
      · rw [key_lr] at h; exact SeqAt.EqAt.int_str i t y u _ _ _ _ h
    · rcases keyIs_shape hv with ⟨j, u, rfl, rfl⟩ | ⟨y, u, rfl, rfl⟩
      · rw [key_rl] at h; exact SeqAt.EqAt.str_int x t j u _ _ _ _ h
      · rw [key_rr] at h; exact wpAny_eqBool_str h
  «strs» := fun k x t v h => by
    rcases keyIs_shape h with ⟨i, u, rfl, e⟩ | ⟨y, u, rfl, e⟩
    · exact nomatch e
    · injection e with e1 _
      subst e1
      cases v <;> rfl
theorem mixKind_int (prog : Program) (w : World) (i : Int) (t : Tok) : (mixKind prog w).is (.inl i) (.int i t) = true := keyIs_int i t
theorem mixKind_str (prog : Program) (w : World) (x : Str) (t : Tok) : (mixKind prog w).is (.inr x) (.str x t) = true := keyIs_str x t
end L2
namespace L2
open PySem PySem.Spec PyProof.Rows
inductive V where
  | non | bl (b : Bool) | int (i : Int) | str (x : Str) | byt (b : Array UInt8) | flt (b : UInt64) | ref (a : Addr) | ty (n : String)
  deriving DecidableEq
def RelV : V → Value → Prop
  | .non, u => u = Value.none
  | .bl b, u => u = Value.bool b
  | .int i, u => ∃ t, u = Value.int i t
  | .str x, u => ∃ t, u = Value.str x t
  | .byt b, u => ∃ t, u = Value.bytes b t
  | .flt b, u => ∃ t, u = Value.float b t
  | .ref a, u => u = Value.ref a
  | .ty n, u => u = Value.type n
abbrev Vals : List V → List Value → Prop := Paired RelV
theorem Vals.length {xs : List V} {us : List Value} (r : Vals xs us) : xs.length = us.length := Paired.length r
theorem Vals.get : ∀ {xs : List V} {us : List Value} {i : Nat} {x : V}, Vals xs us → xs[i]? = some x → ∃ u, us[i]? = some u ∧ RelV x u
  | _, _, _, _, .nil, e => by simp at e
  | _, _, 0, _, .cons r _, e => by simp at e; subst e; exact ⟨_, rfl, r⟩
  | _, _, i + 1, x, .cons _ t, e => by
    obtain ⟨u, h1, h2⟩ := Vals.get (i := i) (x := x) t (by simpa using e)
    exact ⟨u, by simpa using h1, h2⟩
theorem Vals.set {x : V} {u : Value} (r : RelV x u) : ∀ {xs : List V} {us : List Value} (i : Nat), Vals xs us → Vals (xs.set i x) (us.set i u)
  | _, _, _, .nil => .nil
  | _, _, 0, .cons _ t => .cons r t
  | _, _, i + 1, .cons q t => .cons q (Vals.set r i t)
theorem Vals.append : ∀ {xs ys : List V} {us ws : List Value}, Vals xs us → Vals ys ws → Vals (xs ++ ys) (us ++ ws)
  | _, _, _, _, .nil, s => s
  | _, _, _, _, .cons r t, s => .cons r (Vals.append t s)
theorem Vals.take : ∀ {xs : List V} {us : List Value} (n : Nat), Vals xs us → Vals (xs.take n) (us.take n)
  | _, _, 0, _ => .nil
  | _, _, _ + 1, .nil => .nil
  | _, _, n + 1, .cons r t => .cons r (Vals.take n t)
theorem Vals.drop : ∀ {xs : List V} {us : List Value} (n : Nat), Vals xs us → Vals (xs.drop n) (us.drop n)
  | _, _, 0, r => r
  | _, _, _ + 1, .nil => .nil
  | _, _, n + 1, .cons _ t => Vals.drop n t
def RelO : Option V → Option Value → Prop
  | some v, some u => RelV v u
  | none, none => True
  | _, _ => False
def KV {κ : Type} : List (κ × V) → List (κ × Value) → Prop := Paired fun (p : κ × V) (q : κ × Value) => p.1 = q.1 ∧ RelV p.2 q.2
def kV : Key → V
  | .inl i => .int i
  | .inr x => .str x
inductive HO where
  | lst (xs : List V)
  | tup (xs : List V)
  | dK (kvs : List (Key × V)) | dT (kvs : List (List Key × V))
  | set (S : Int → Bool) (n : Nat)
  | ins (C dx : Addr) (fs : List (Str × V))
  | own (x : Addr)
  | xd (fs : List (Str × V))
  | met (f x : Addr)
  | rng (lo hi : Int)
  | frz (o : Obj) (u : HO)
  | tbl (ps : Array Value)
  | ext (φ : Heap → Prop)
abbrev Hp := Addr → Option HO
def upd (H : Hp) (a : Addr) (o : HO) : Hp := fun b => if b = a then some o else H b
theorem upd_same {H : Hp} {a : Addr} {o : HO} : upd H a o a = some o := by unfold upd; rw [if_pos rfl]
theorem upd_ne {H : Hp} {a b : Addr} {o : HO} (h : b ≠ a) : upd H a o b = H b := by unfold upd; rw [if_neg h]
theorem upd_upd {H : Hp} {a : Addr} {o u : HO} : upd (upd H a o) a u = upd H a u := by
  funext b; unfold upd; split <;> rfl
theorem ne_of {H : Hp} {a b : Addr} {o u : HO} (h : H a = some o) (h' : H b = some u) (d : o ≠ u) : a ≠ b := by
  intro e; subst e; rw [h] at h'; exact d (Option.some.inj h')
theorem ne_of_none {H : Hp} {a b : Addr} {o : HO} (h : H a = some o) (h' : H b = none) : a ≠ b := by
  intro e; subst e; rw [h] at h'; cases h'
section
variable (P : Program) (w : World)
def ObjOk (H : Hp) (h : Heap) (a : Addr) : HO → Prop
  | .lst xs => xs.length ≤ sizeLine ∧ ∃ (its : List Value) (n : Nat), Vals xs its ∧ h.get? a = some { cls := .type "list", data := .seq its.toArray n }
  | .tup xs => xs.length ≤ sizeLine ∧ ∃ its : List Value, Vals xs its ∧ IsTup h a its.toArray
  | .dK kvs => kvs.length ≤ sizeLine ∧ (a == sysModules) = false ∧ ∃ vs, KV kvs vs ∧ h.DictOf (mixKind P w) a vs
  | .dT kvs => kvs.length ≤ sizeLine ∧ (a == sysModules) = false ∧ ∃ xs : List (List Key × Addr × Value),
      Paired (fun (p : List Key × V) (q : List Key × Addr × Value) => p.1 = q.1 ∧ H q.2.1 = some (.tup (p.1.map kV)) ∧ RelV p.2 q.2.2) kvs xs ∧
      ∃ o es ep, h.get? a = some o ∧ o.ExactDict ∧ o.data = .dict es ep ∧ es.toList = xs.map (entryOfKey (tupleKind (mixKind P w))) ∧ (xs.map (·.1)).Nodup
  | .set S n => h.SetOf (intKind P w) a S n
  | .ins C dx fs => H dx = some (.own a) ∧ fs.length ≤ 1000 ∧ dx ≠ a ∧ h.get? a = some (PySem.W.instObj C dx) ∧
      ∃ mA, h.Ns1 dx mA ∧ (∀ f, RelO (fs.lookup f) (mA f)) ∧ PySem.Within mA (fs.map (·.1))
  | .own _ => ∃ o, h.get? a = some o
  | .xd fs => ∃ mA, h.Ns1 a mA ∧ ∀ f, RelO (fs.lookup f) (mA f)
  | .rng lo hi => ∃ t u v, h.get? a = some { cls := .type "range", data := .fields #[.int lo t, .int hi u, .int 1 v] }
  | .frz o u => h.get? a = some o ∧ ObjOk H h a u
  | .tbl ps => h.get? a = some { cls := .none, data := .fields ps }
  | .met f x => h.get? a = some (PySem.W.methodObj (.ref f) (.ref x))
  | .ext φ => φ h ∧ (∃ o, h.get? a = some o) ∧ ∀ h1 h2 : Heap, φ h1 → (∀ o, h1.get? a = some o → h2.get? a = some o) → φ h2
def HOk (H : Hp) (h : Heap) : Prop := ∀ a o, H a = some o → ObjOk P w H h a o
end
section
variable {P : Program} {w : World} {H H' : Hp} {h h' : Heap} {a : Addr} {o : HO}
theorem ObjOk.lt (x : ObjOk P w H h a o) : a < h.objs.size := by
  cases o with
  | lst xs => obtain ⟨_, _, _, _, e⟩ := x; exact Heap.lt_size e
  | tup xs => obtain ⟨_, _, _, p⟩ := x; exact p.lt
  | dK kvs => obtain ⟨_, _, _, _, o, _, _, e, _⟩ := x; exact Heap.lt_size e
  | dT kvs => obtain ⟨_, _, _, _, o, _, _, e, _⟩ := x; exact Heap.lt_size e
  | set S n => obtain ⟨o, _, _, _, e, _⟩ := x; exact Heap.lt_size e
  | ins C dx fs => obtain ⟨_, _, _, e, _⟩ := x; exact Heap.lt_size e
  | own y => obtain ⟨_, e⟩ := x; exact Heap.lt_size e
  | xd fs => obtain ⟨_, ⟨_, _, _, e, _⟩, _⟩ := x; exact Heap.lt_size e
  | rng lo hi => obtain ⟨_, _, _, e⟩ := x; exact Heap.lt_size e
  | frz ob u => obtain ⟨e, _⟩ := x; exact Heap.lt_size e
  | tbl ps => exact Heap.lt_size (show h.get? a = some _ from x)
  | met f y => exact Heap.lt_size (show h.get? a = some _ from x)
  | ext φ => obtain ⟨_, ⟨_, e⟩, _⟩ := x; exact Heap.lt_size e
theorem Paired.mapP {α β : Type} {F G : α → β → Prop} : ∀ {l₁ : List α} {l₂ : List β}, Paired F l₁ l₂ → (∀ a b, F a b → G a b) → Paired G l₁ l₂
  | _, _, .nil, _ => .nil
  | _, _, .cons r t, f => .cons (f _ _ r) (Paired.mapP t f)
theorem ObjOk.stay (x : ObjOk P w H h a o) (k : ∀ b u, (b = a ∨ H b = some (.own a)) → h.get? b = some u → h'.get? b = some u)
    (ho : ∀ b, H b = some (.own a) → H' b = some (.own a)) (ht : ∀ b xs, H b = some (.tup xs) → H' b = some (.tup xs)) : ObjOk P w H' h' a o := by
  induction o with
  | lst xs => obtain ⟨z, its, n, r, e⟩ := x; exact ⟨z, its, n, r, k _ _ (.inl rfl) e⟩
  | tup xs => obtain ⟨z, its, r, ob, e, c⟩ := x; exact ⟨z, its, r, ob, k _ _ (.inl rfl) e, c⟩
  | dK kvs => obtain ⟨z, y, vs, r, ob, es, ep, e, c⟩ := x; exact ⟨z, y, vs, r, ob, es, ep, k _ _ (.inl rfl) e, c⟩
  | dT kvs =>
    obtain ⟨z, y, xs, r, ob, es, ep, e, c⟩ := x
    exact ⟨z, y, xs, Paired.mapP r fun p q z => ⟨z.1, ht _ _ z.2.1, z.2.2⟩, ob, es, ep, k _ _ (.inl rfl) e, c⟩
  | set S n => obtain ⟨ob, es, ep, t, e, c⟩ := x; exact ⟨ob, es, ep, t, k _ _ (.inl rfl) e, c⟩
  | ins C dx fs =>
    obtain ⟨d, z, ne, e, mA, ⟨od, es, ep, e2, c⟩, r⟩ := x
    exact ⟨ho _ d, z, ne, k _ _ (.inl rfl) e, mA, ⟨od, es, ep, k _ _ (.inr d) e2, c⟩, r⟩
  | own y => obtain ⟨ob, e⟩ := x; exact ⟨ob, k _ _ (.inl rfl) e⟩
  | xd fs => obtain ⟨mA, ⟨od, es, ep, e, c⟩, r⟩ := x; exact ⟨mA, ⟨od, es, ep, k _ _ (.inl rfl) e, c⟩, r⟩
  | rng lo hi => obtain ⟨t, u, v, e⟩ := x; exact ⟨t, u, v, k _ _ (.inl rfl) e⟩
  | frz ob u ih => obtain ⟨e, q⟩ := x; exact ⟨k _ _ (.inl rfl) e, ih q⟩
  | tbl ps =>
    have e : h.get? a = some { cls := .none, data := .fields ps } := x
    show h'.get? a = some { cls := .none, data := .fields ps }
    exact k a _ (.inl rfl) e
  | met f y =>
    have e : h.get? a = some (PySem.W.methodObj (.ref f) (.ref y)) := x
    show h'.get? a = some (PySem.W.methodObj (.ref f) (.ref y))
    exact k a _ (.inl rfl) e
  | ext φ => obtain ⟨p, ⟨o, e⟩, st⟩ := x; exact ⟨st _ _ p fun o q => k _ _ (.inl rfl) q, ⟨o, k _ _ (.inl rfl) e⟩, st⟩
theorem HOk.lt (x : HOk P w H h) (e : H a = some o) : a < h.objs.size := (x a o e).lt
theorem HOk.fresh (x : HOk P w H h) (e : h.objs.size ≤ a) : H a = none := by
  cases q : H a with
  | none => rfl
  | some u => exact absurd (Nat.lt_of_lt_of_le (x.lt q) e) (Nat.lt_irrefl _)
theorem HOk.kept (x : HOk P w H h) (k : ∀ b u, h.get? b = some u → h'.get? b = some u) : HOk P w H h' := fun a o e =>
  (x a o e).stay (fun b u _ q => k b u q) (fun _ q => q) fun _ _ q => q
theorem HOk.laid (x : HOk P w H h) (k : ∀ b u, h.get? b = some u → h'.get? b = some u) (hp : h.objs.size ≤ a) (new : ObjOk P w (upd H a o) h' a o) : HOk P w (upd H a o) h' := fun b u e => by
  have hn := x.fresh hp
  by_cases hb : b = a
  · subst hb; rw [upd_same] at e; cases e; exact new
  · rw [upd_ne hb] at e
    exact (x b u e).stay (fun c v _ q => k c v q) (fun c q => by rw [upd_ne (ne_of_none q hn)]; exact q) fun c xs q => by rw [upd_ne (ne_of_none q hn)]; exact q
end
def Rd (H : Hp) (a : Addr) (u : HO) : Prop := H a = some u ∨ ∃ o, H a = some (.frz o u)
theorem Rd.ok {P : Program} {w : World} {H : Hp} {h : Heap} {a : Addr} {u : HO} (r : Rd H a u) (x : HOk P w H h) : ObjOk P w H h a u := by
  rcases r with r | ⟨o, r⟩
  · exact x a u r
  · obtain ⟨_, q⟩ := x a _ r
    exact q
def Mut : Option HO → Prop
  | some (.lst _) => True
  | some (.dK _) => True
  | some (.dT _) => True
  | some (.set _ _) => True
  | some (.ins _ _ _) => True
  | some (.ext _) => True
  | _ => False
section
variable {P : Program} {w : World} {H : Hp} {h h' : Heap} {x e : Addr} {o' : HO}
theorem HOk.write (ok : HOk P w H h) (mu : Mut (H x)) (he : e = x ∨ H e = some (.own x)) (k : ∀ b u, b ≠ e → h.get? b = some u → h'.get? b = some u) (heo : ∃ u, h'.get? e = some u)
    (new : ObjOk P w (upd H x o') h' x o') : HOk P w (upd H x o') h' := fun b u q => by
  have nown : ∀ c y, H c = some (.own y) → c ≠ x := fun c y r z => by subst z; rw [r] at mu; exact mu
  have ntup : ∀ c xs, H c = some (.tup xs) → c ≠ x := fun c xs r z => by subst z; rw [r] at mu; exact mu
  by_cases hb : b = x
  · subst hb; rw [upd_same] at q; cases q; exact new
  · rw [upd_ne hb] at q
    by_cases hbe : b = e
    · have q' : H b = some (.own x) := by
        rcases he with z | z
        · exact absurd (hbe.trans z) hb
        · rw [hbe]; exact z
      rw [q] at q'; cases q'
      obtain ⟨v, hv⟩ := heo
      exact ⟨v, by rw [hbe]; exact hv⟩
    · refine (ok b u q).stay (fun c v hc r => k c v ?_ r) (fun c r => by rw [upd_ne (nown c b r)]; exact r) fun c xs r => by rw [upd_ne (ntup c xs r)]; exact r
      rcases hc with rfl | hc
      · exact hbe
      · rintro rfl
        rcases he with z | z
        · exact nown c b hc z
        · rw [hc] at z; cases z; exact hb rfl
end
structure Un (fs ex : List Addr) (H H' : Hp) (h h' : Heap) : Prop where
  keep : ∀ b o, h.get? b = some o → H b = none → b ∉ fs → b ∉ ex → h'.get? b = some o
  slot : ∀ b o, h.get? b = some o → H b = none → b ∈ fs → b ∉ ex → ∃ sl, h'.get? b = some { o with slots := sl }
  free : ∀ b o, h.get? b = some o → H b = none → b ∉ ex → H' b = none
  there : ∀ b o, h.get? b = some o → b ∉ ex → ∃ o', h'.get? b = some o'
  tups : ∀ b xs, H b = some (.tup xs) → H' b = some (.tup xs)
  frzs : ∀ b o u, H b = some (.frz o u) → H' b = some (.frz o u)
  tbls : ∀ b ps, H b = some (.tbl ps) → ∃ more, H' b = some (.tbl (ps ++ more))
section
variable {fs fs' ex ex' : List Addr} {H H1 H2 : Hp} {h h1 h2 h' : Heap} {a x e : Addr} {o : HO}
theorem Un.any (u : Un fs ex H H1 h h1) {b : Addr} {ob : Obj} (q : h.get? b = some ob) (n : H b = none) (hx : b ∉ ex) : ∃ sl, h1.get? b = some { ob with slots := sl } := by
  by_cases hb : b ∈ fs
  · exact u.slot b ob q n hb hx
  · exact ⟨ob.slots, u.keep b ob q n hb hx⟩
theorem Un.kept (k : ∀ b u, h.get? b = some u → h'.get? b = some u) : Un fs ex H H h h' :=
  ⟨fun b ob q _ _ _ => k b ob q, fun b ob q _ _ _ => ⟨ob.slots, k b ob q⟩, fun _ _ _ n _ => n, fun b ob q _ => ⟨ob, k b ob q⟩, fun _ _ q => q, fun _ _ _ q => q, fun _ ps q => ⟨#[], by rw [q]; simp⟩⟩
theorem Un.refl : Un fs ex H H h h := Un.kept fun _ _ q => q
theorem Un.laid (k : ∀ b u, h.get? b = some u → h'.get? b = some u) (hp : h.objs.size ≤ a) (hn : H a = none) : Un fs ex H (upd H a o) h h' where
  keep := fun b u q _ _ _ => k b u q
  slot := fun b u q _ _ _ => ⟨u.slots, k b u q⟩
  free := fun b u q n _ => by rw [upd_ne (Nat.ne_of_lt (Nat.lt_of_lt_of_le (Heap.lt_size q) hp))]; exact n
  there := fun b u q _ => ⟨u, k b u q⟩
  tups := fun b xs q => by rw [upd_ne (ne_of_none q hn)]; exact q
  frzs := fun b u xs q => by rw [upd_ne (ne_of_none q hn)]; exact q
  tbls := fun b ps q => ⟨#[], by rw [upd_ne (ne_of_none q hn), q]; simp⟩
theorem Un.write (mu : Mut (H x)) (he : e = x ∨ H e = some (.own x)) (k : ∀ b u, b ≠ e → h.get? b = some u → h'.get? b = some u) (heo : ∃ u, h'.get? e = some u) : Un fs ex H (upd H x o) h h' := by
  have hx : ∀ b, H b = none → b ≠ x := fun b n z => by subst z; rw [n] at mu; exact mu
  have hb : ∀ b, H b = none → b ≠ e := fun b n z => by
    subst z
    rcases he with r | r
    · exact hx b n r
    · rw [n] at r; cases r
  have hm : ∀ b u, H b = some u → ¬ Mut (some u) → b ≠ x := fun b u q nm z => by subst z; rw [q] at mu; exact nm mu
  refine ⟨fun b u q n _ _ => k b u (hb b n) q, fun b u q n _ _ => ⟨u.slots, k b u (hb b n) q⟩, fun b u q n _ => by rw [upd_ne (hx b n)]; exact n, fun b u q _ => ?_,
    fun b xs q => by rw [upd_ne (hm b _ q fun z => z)]; exact q, fun b u xs q => by rw [upd_ne (hm b _ q fun z => z)]; exact q, fun b ps q => ⟨#[], by rw [upd_ne (hm b _ q fun z => z), q]; simp⟩⟩
  by_cases hbe : b = e
  · subst hbe; exact heo
  · exact ⟨u, k b u hbe q⟩
end
def trk (h : Heap) (H : Hp) : List Addr := (List.range h.objs.size).filter fun a => (H a).isSome
def hidT (h : Heap) (H : Hp) : Heap := PySem.W.hideAll h (trk h H)
theorem hidT_size (h : Heap) (H : Hp) : (hidT h H).objs.size = h.objs.size := PySem.W.hideAll_size _ _
theorem hidT_get {h : Heap} {H : Hp} {b : Addr} {o : Obj} (e : h.get? b = some o) (n : H b = none) : (hidT h H).get? b = some o :=
  PySem.W.hideAll_get _ e fun hm => by
    have q : (H b).isSome = true := (List.mem_filter.mp hm).2
    rw [n] at q; simp at q
theorem of_hidT {h : Heap} {H : Hp} {b : Addr} {o : Obj} (e : (hidT h H).get? b = some o) : h.get? b = some o ∧ H b = none := by
  have e' : h.get? b = some o := PySem.W.of_hideAll (trk h H) e
  refine ⟨e', ?_⟩
  cases q : H b with
  | none => rfl
  | some x =>
    have hm : b ∈ trk h H := List.mem_filter.mpr ⟨List.mem_range.mpr (Heap.lt_size e'), by simp [q]⟩
    have z : (hidT h H).get? b = none := PySem.W.hideAll_none (trk h H) hm
    rw [z] at e; cases e
end L2
namespace L2
open PySem PySem.Spec PyProof.Rows
structure Mod (K : PySem.W.Frag) (mg : Str → Option Value) (base : Heap) : Prop where
  kin : K.In base
  glob : base.Ns mainGlobals mg
  blt : ∃ mb, base.Ns builtinsNs mb ∧ ∀ x : Str, x ≠ "__name__" → mb x = bootBuiltins x
  nolimit : base.NoLimit
structure Cx where
  prog : Program
  w : World
  K : PySem.W.Frag
  mg : Str → Option Value
  base : Heap
  A : Around
  N : List Str
  s_0 : Shared
  H_0 : Hp
  env : Env
  outer : List Env
  stack : List Env
  ex : List Addr
  fn : Str → Bool
  calm : Bool
  pn : List (Addr × Obj)
  xe : Value → Shared → Prop
def frs (l : List Env) : List Addr := l.filterMap (·.frame)
abbrev Cx.fs (X : Cx) : List Addr := frs X.outer
def Vis (sc : Scope) (x : Str) : Prop := sc.names.lookup x = some .local ∨ sc.names.lookup x = some .cell ∨ sc.names.lookup x = some .free
def Loc (sc : Scope) (x : Str) : Prop := sc.names.lookup x = some .local ∨ sc.names.lookup x = some .cell
def Look (env : Env) (h : Heap) (m : Str → Option Value) (x : Str) (u : Value) : Prop :=
  (env.kindOf x = some .local ∧ m x = some u) ∨ ((env.kindOf x = some .cell ∨ env.kindOf x = some .free) ∧ ∃ c, env.cells.lookup x = some c ∧ h.IsCell c (some u))
structure Cx.Ok (X : Cx) : Prop where
  mod : Mod X.K X.mg X.base
  kind : X.env.scope.kind = .function
  glob : X.env.globals = mainGlobals
  blt : X.env.builtins = builtinsNs
  above : X.s_0.heap.objs.size ≤ X.env.locals
  inj : ∀ x y c, X.env.cells.lookup x = some c → X.env.cells.lookup y = some c → x = y
  has : ∀ x, (X.env.kindOf x = some .cell ∨ X.env.kindOf x = some .free) → ∃ c, X.env.cells.lookup x = some c
  cab : ∀ x c, X.fn x = true → X.env.cells.lookup x = some c → X.s_0.heap.objs.size ≤ c
  hd : X.calm = true → X.A.handled = none
  frames : X.A.frames = some X.stack
  stk : X.stack = X.outer ∨ (X.stack = X.env :: X.outer ∧ X.env.frame = some X.env.locals)
  exf : ∀ b ∈ X.ex, b ≠ X.env.locals ∧ ∀ x c, X.env.cells.lookup x = some c → c ≠ b
  bs : ∀ b o, X.base.get? b = some o → X.s_0.heap.get? b = some o ∧ X.H_0 b = none
  bsz : X.base.objs.size ≤ X.s_0.heap.objs.size
  noex : ∀ b o, X.base.get? b = some o → b ∉ X.ex
  exfs : ∀ b ∈ X.ex, b ∉ X.fs
  funs : X.s_0.heap.FunFrames X.base X.outer
  frf : ∀ b ∈ X.fs, X.H_0 b = none
structure Inv (X : Cx) (pins : List (Addr × Obj)) (σ : List (Option V)) (H : Hp) (s : Shared) : Prop where
  ok : X.Ok
  os : s.os = X.s_0.os
  bare : AllBare s.gens
  base : Un X.fs X.ex X.H_0 H X.s_0.heap s.heap
  loc : ∃ m, s.heap.Ns X.env.locals m ∧ ∀ (i : Nat) (x : Str) (v : V), X.N[i]? = some x → σ[i]? = some (some v) → Vis X.env.scope x → ∃ u, RelV v u ∧ Look X.env s.heap m x u
  cell : ∀ x c, X.env.cells.lookup x = some c → ∃ v, s.heap.IsCell c v
  free : H X.env.locals = none
  freeC : ∀ x c, X.env.cells.lookup x = some c → H c = none
  pin : ∀ p ∈ X.pn ++ pins, s.heap.get? p.1 = some p.2 ∧ H p.1 = none ∧ p.1 ≠ X.env.locals ∧ p.1 ∉ X.fs ∧ ∀ v, p.2.data ≠ .cell v
  hok : HOk X.prog X.w H s.heap
  len : σ.length = X.N.length
section
variable {X : Cx} {pins : List (Addr × Obj)} {σ : List (Option V)} {H H' : Hp} {s : Shared} {h' : Heap}
theorem Cx.Ok.nofr (ok : X.Ok) {b : Addr} {o : Obj} (e : X.base.get? b = some o) : b ∉ X.fs := fun hb => by
  have := (ok.funs.mem hb).1
  rw [e] at this; cases this
theorem Inv.bs (I : Inv X pins σ H s) : ∀ b o, X.base.get? b = some o → s.heap.get? b = some o ∧ H b = none := fun b o e =>
  ⟨I.base.keep b o (I.ok.bs b o e).1 (I.ok.bs b o e).2 (I.ok.nofr e) (I.ok.noex b o e), I.base.free b o (I.ok.bs b o e).1 (I.ok.bs b o e).2 (I.ok.noex b o e)⟩
theorem Inv.bk (I : Inv X pins σ H s) : ∀ b o, X.base.get? b = some o → s.heap.get? b = some o := fun b o e => (I.bs b o e).1
theorem Inv.mod (I : Inv X pins σ H s) : Mod X.K X.mg X.base := I.ok.mod
theorem Inv.kIn (I : Inv X pins σ H s) : X.K.In s.heap := I.ok.mod.kin.keeps I.bk
theorem Inv.nolimit (I : Inv X pins σ H s) : s.heap.NoLimit := I.ok.mod.nolimit.keeps I.bk
theorem Inv.fr (I : Inv X pins σ H s) : ∃ m, Fr X.base X.env.locals s.heap m :=
  let ⟨m, hn, _⟩ := I.loc
  ⟨m, hn, I.bk, Nat.le_trans I.ok.bsz I.ok.above⟩
theorem Inv.lt (I : Inv X pins σ H s) : X.env.locals < s.heap.objs.size := let ⟨_, hn, _⟩ := I.loc; hn.lt
theorem Inv.sz (I : Inv X pins σ H s) : X.s_0.heap.objs.size ≤ s.heap.objs.size := Nat.le_trans I.ok.above (Nat.le_of_lt I.lt)
theorem Inv.nofs (I : Inv X pins σ H s) {a : Addr} (h : s.heap.objs.size ≤ a) : a ∉ X.fs := fun hb => by
  obtain ⟨_, o, ho, _⟩ := I.ok.funs.mem hb
  exact absurd (Nat.lt_of_lt_of_le (Heap.lt_size ho) (Nat.le_trans I.sz h)) (Nat.lt_irrefl _)
theorem Inv.cne (I : Inv X pins σ H s) : ∀ x c, X.env.cells.lookup x = some c → c ≠ X.env.locals := fun x c e z => by
  obtain ⟨v, o, ho, hd⟩ := I.cell x c e
  obtain ⟨m, ⟨o', es, ep, ho', hd', _⟩, _⟩ := I.loc
  rw [z, ho'] at ho; cases ho; rw [hd'] at hd; cases hd
theorem Inv.funs (I : Inv X pins σ H s) : s.heap.FunFrames X.base X.outer := by
  have all : ∀ (l : List Env), (∀ b ∈ frs l, b ∈ X.fs) → X.s_0.heap.FunFrames X.base l → s.heap.FunFrames X.base l := by
    intro l
    induction l with
    | nil => intro _ _; trivial
    | cons env r ih =>
      intro hs hl
      obtain ⟨hk, ⟨L, o, hf, hn, ho, hd⟩, hr⟩ := hl
      have hL : L ∈ X.fs := hs L (by unfold frs; rw [List.filterMap_cons, hf]; exact List.mem_cons_self)
      obtain ⟨sl, e⟩ := I.base.slot L o ho (I.ok.frf L hL) hL fun z => I.ok.exfs L z hL
      exact ⟨hk, ⟨L, _, hf, hn, e, hd⟩, ih (fun b hb => hs b (by unfold frs; rw [List.filterMap_cons, hf]; exact List.mem_cons_of_mem _ hb)) hr⟩
  exact all X.outer (fun _ hb => hb) I.ok.funs
theorem Inv.stack (I : Inv X pins σ H s) : s.heap.FunFrames X.base X.stack := by
  rcases I.ok.stk with e | ⟨e, hf⟩
  · rw [e]; exact I.funs
  · rw [e]
    obtain ⟨m, hn, _⟩ := I.loc
    refine .cons (by rw [I.ok.kind]; decide) hf hn ?_ I.funs
    exact Heap.get?_none_of_le (Nat.le_trans I.ok.bsz I.ok.above)
theorem Inv.stkSub (I : Inv X pins σ H s) : ∀ b ∈ frs X.stack, b ∈ X.env.locals :: X.fs := fun b hb => by
  rcases I.ok.stk with e | ⟨e, hf⟩
  · rw [e] at hb; exact List.mem_cons_of_mem _ hb
  · rw [e] at hb
    unfold frs at hb
    rw [List.filterMap_cons, hf] at hb
    exact hb
theorem Inv.stkFree (I : Inv X pins σ H s) : ∀ b ∈ frs X.stack, H b = none := fun b hb => by
  rcases List.mem_cons.mp (I.stkSub b hb) with e | hb
  · rw [e]; exact I.free
  · obtain ⟨_, o, ho, _⟩ := I.ok.funs.mem hb
    exact I.base.free b o ho (I.ok.frf b hb) fun z => I.ok.exfs b z hb
theorem Inv.step {g' : Array GenState} {t' : Nat} {d' : Drawn} {ch : List Addr} (I : Inv X pins σ H s)
    (hch : ∀ b ∈ ch, (b ∈ X.ex ∨ X.s_0.heap.objs.size ≤ b) ∧ b ≠ X.env.locals ∧ (∀ x c, X.env.cells.lookup x = some c → c ≠ b) ∧ ∀ p ∈ X.pn ++ pins, p.1 ≠ b)
    (keep : ∀ b o, b ≠ X.env.locals → b ∉ X.fs → b ∉ ch → s.heap.get? b = some o → H b = none → h'.get? b = some o)
    (slot : ∀ b o, b ≠ X.env.locals → b ∈ X.fs → b ∉ ch → s.heap.get? b = some o → H b = none → ∃ sl, h'.get? b = some { o with slots := sl }) (free : ∀ b o, b ∉ ch → s.heap.get? b = some o → H b = none → H' b = none)
    (there : ∀ b o, b ∉ ch → s.heap.get? b = some o → ∃ o', h'.get? b = some o')
    (tups : ∀ b xs, H b = some (.tup xs) → H' b = some (.tup xs)) (frzs : ∀ b o u, H b = some (.frz o u) → H' b = some (.frz o u)) (tbls : ∀ b ps, H b = some (.tbl ps) → ∃ more, H' b = some (.tbl (ps ++ more)))
    (ns : ∀ m, s.heap.Ns X.env.locals m → h'.Ns X.env.locals m) (hok : HOk X.prog X.w H' h') (hg : AllBare g') :
    Inv X pins σ H' { s with heap := h', gens := g', drawn := d', toks := t' } := by
  have neL : ∀ b o, X.s_0.heap.get? b = some o → b ≠ X.env.locals := fun b o e => Nat.ne_of_lt (Nat.lt_of_lt_of_le (Heap.lt_size e) I.ok.above)
  have neC : ∀ b o, X.s_0.heap.get? b = some o → b ∉ X.ex → b ∉ ch := fun b o e hx hb => by
    rcases (hch b hb).1 with z | z
    · exact hx z
    · exact absurd (Nat.lt_of_lt_of_le (Heap.lt_size e) z) (Nat.lt_irrefl _)
  have cellK : ∀ x c, X.env.cells.lookup x = some c → ∀ v, s.heap.IsCell c v → h'.IsCell c v := fun x c e v ⟨o, ho, hd⟩ => by
    have nch : c ∉ ch := fun z => (hch c z).2.2.1 x c e rfl
    by_cases hc : c ∈ X.fs
    · obtain ⟨sl, q⟩ := slot c o (I.cne x c e) hc nch ho (I.freeC x c e)
      exact ⟨_, q, hd⟩
    · exact ⟨o, keep c o (I.cne x c e) hc nch ho (I.freeC x c e), hd⟩
  refine ⟨I.ok, I.os, hg, ⟨fun b o e n hb hx => ?_, fun b o e n hb hx => ?_, fun b o e n hx => ?_, fun b o e hx => ?_, fun b xs e => tups b xs (I.base.tups b xs e), fun b o xs e => frzs b o xs (I.base.frzs b o xs e), fun b ps e => ?_⟩, ?_, fun x c e => ?_, ?_, fun x c e => ?_, fun p hp => ?_, hok, I.len⟩
  · exact keep b o (neL b o e) hb (neC b o e hx) (I.base.keep b o e n hb hx) (I.base.free b o e n hx)
  · obtain ⟨sl, e1⟩ := I.base.slot b o e n hb hx
    obtain ⟨sl', e2⟩ := slot b _ (neL b o e) hb (neC b o e hx) e1 (I.base.free b o e n hx)
    exact ⟨sl', e2⟩
  · obtain ⟨o', e1⟩ := I.base.there b o e hx
    exact free b o' (neC b o e hx) e1 (I.base.free b o e n hx)
  · obtain ⟨o', e1⟩ := I.base.there b o e hx
    exact there b o' (neC b o e hx) e1
  · obtain ⟨m1, e1⟩ := I.base.tbls b ps e
    obtain ⟨m2, e2⟩ := tbls b _ e1
    exact ⟨m1 ++ m2, by rw [e2, Array.append_assoc]⟩
  · obtain ⟨m, hn, hl⟩ := I.loc
    refine ⟨m, ns m hn, fun i x v e1 e2 e3 => ?_⟩
    obtain ⟨u, r, l⟩ := hl i x v e1 e2 e3
    refine ⟨u, r, ?_⟩
    rcases l with l | ⟨k, c, e, z⟩
    · exact .inl l
    · exact .inr ⟨k, c, e, cellK x c e _ z⟩
  · obtain ⟨v, z⟩ := I.cell x c e
    exact ⟨v, cellK x c e v z⟩
  · obtain ⟨m, ⟨o, _, _, ho, _⟩, _⟩ := I.loc
    exact free _ o (fun z => (hch _ z).2.1 rfl) ho I.free
  · obtain ⟨v, o, ho, hd⟩ := I.cell x c e
    exact free c o (fun z => (hch c z).2.2.1 x c e rfl) ho (I.freeC x c e)
  · obtain ⟨e, n, ne, nf, d⟩ := I.pin p hp
    have nch : p.1 ∉ ch := fun z => (hch p.1 z).2.2.2 p hp rfl
    exact ⟨keep p.1 p.2 ne nf nch e n, free p.1 p.2 nch e n, ne, nf, d⟩
theorem Inv.un {t' : Nat} (I : Inv X pins σ H s) (u : Un X.fs [] H H' s.heap h') (hok : HOk X.prog X.w H' h') : Inv X pins σ H' { s with heap := h', toks := t' } := by
  obtain ⟨m, ⟨o, es, ep, ho, r⟩, _⟩ := id I.loc
  obtain ⟨sl, hL⟩ := u.any ho I.free (by simp)
  exact I.step (g' := s.gens) (d' := s.drawn) (ch := []) (fun _ z => nomatch z) (fun b o _ hb _ e n => u.keep b o e n hb (by simp)) (fun b o _ hb _ e n => u.slot b o e n hb (by simp)) (fun b o _ e n => u.free b o e n (by simp)) (fun b o _ e => u.there b o e (by simp)) u.tups u.frzs u.tbls (fun m' hm => by
    obtain ⟨o', es', ep', ho', r'⟩ := hm
    rw [ho] at ho'; cases ho'
    exact ⟨_, es', ep', hL, r'⟩) hok I.bare
theorem Inv.call {g' : Array GenState} {t' : Nat} {d' : Drawn} {ch : List Addr} (I : Inv X pins σ H s) (u : Un (frs X.stack) ch H H' s.heap h') (hok : HOk X.prog X.w H' h') (hg : AllBare g')
    (hch : ∀ b ∈ ch, (b ∈ X.ex ∨ X.s_0.heap.objs.size ≤ b) ∧ b ≠ X.env.locals ∧ (∀ x c, X.env.cells.lookup x = some c → c ≠ b) ∧ ∀ p ∈ X.pn ++ pins, p.1 ≠ b) :
    Inv X pins σ H' { s with heap := h', gens := g', drawn := d', toks := t' } := by
  obtain ⟨m, ⟨o, es, ep, ho, r⟩, _⟩ := id I.loc
  obtain ⟨sl, hL⟩ := u.any ho I.free fun z => (hch _ z).2.1 rfl
  exact I.step (ch := ch) hch (fun b o hL hb hc e n => u.keep b o e n (fun z => (List.mem_cons.mp (I.stkSub b z)).elim hL hb) hc) (fun b o _ _ hc e n => u.any e n hc) (fun b o hc e n => u.free b o e n hc) (fun b o hc e => u.there b o e hc) u.tups u.frzs u.tbls (fun m' hm => by
    obtain ⟨o', es', ep', ho', r'⟩ := hm
    rw [ho] at ho'; cases ho'
    exact ⟨_, es', ep', hL, r'⟩) hok hg
theorem Inv.turned {t' : Nat} {it : Addr} (I : Inv X pins σ H s) (k : ∀ b o, b ≠ it → s.heap.get? b = some o → h'.get? b = some o) (hn : H it = none) (hL : it ≠ X.env.locals)
    (h1 : it ∈ X.ex ∨ X.s_0.heap.objs.size ≤ it) (h2 : ∀ x c, X.env.cells.lookup x = some c → c ≠ it) (h3 : ∀ p ∈ X.pn ++ pins, p.1 ≠ it) : Inv X pins σ H { s with heap := h', toks := t' } := by
  have nit : ∀ b u, H b = some u → b ≠ it := fun b u e z => by rw [z, hn] at e; cases e
  refine I.step (g' := s.gens) (d' := s.drawn) (ch := [it]) (fun b hb => ?_) (fun b o _ _ hc e _ => k b o (fun z => hc (by simp [z])) e) (fun b o _ _ hc e _ => ⟨o.slots, k b o (fun z => hc (by simp [z])) e⟩) (fun _ _ _ _ n => n)
    (fun b o hc e => ⟨o, k b o (fun z => hc (by simp [z])) e⟩) (fun _ _ e => e) (fun _ _ _ e => e) (fun b ps e => ⟨#[], by rw [e]; simp⟩) (fun m hm => ?_) (fun b u e => ?_) I.bare
  · have e : b = it := by simpa using hb
    subst e
    exact ⟨h1, hL, h2, h3⟩
  · obtain ⟨o, es, ep, ho, r⟩ := hm
    exact ⟨o, es, ep, k _ o (Ne.symm hL) ho, r⟩
  · refine (I.hok b u e).stay (fun c v hc q => k c v ?_ q) (fun _ q => q) fun _ _ q => q
    rcases hc with z | z
    · rw [z]; exact nit b u e
    · exact nit c _ z
theorem Inv.tok (I : Inv X pins σ H s) (t : Nat) : Inv X pins σ H { s with toks := t } := I.un (h' := s.heap) (t' := t) Un.refl I.hok
theorem Inv.kept {t' : Nat} (I : Inv X pins σ H s) (k : ∀ b u, s.heap.get? b = some u → h'.get? b = some u) : Inv X pins σ H { s with heap := h', toks := t' } := I.un (Un.kept k) (I.hok.kept k)
theorem Inv.laid {a : Addr} {o : HO} {t' : Nat} (I : Inv X pins σ H s) (k : ∀ b u, s.heap.get? b = some u → h'.get? b = some u) (hp : s.heap.objs.size ≤ a) (new : ObjOk X.prog X.w (upd H a o) h' a o) :
    Inv X pins σ (upd H a o) { s with heap := h', toks := t' } := I.un (Un.laid k hp (I.hok.fresh hp)) (I.hok.laid k hp new)
theorem Inv.write {x e : Addr} {o : HO} {t' : Nat} (I : Inv X pins σ H s) (mu : Mut (H x)) (he : e = x ∨ H e = some (.own x)) (k : ∀ b u, b ≠ e → s.heap.get? b = some u → h'.get? b = some u) (heo : ∃ u, h'.get? e = some u)
    (new : ObjOk X.prog X.w (upd H x o) h' x o) : Inv X pins σ (upd H x o) { s with heap := h', toks := t' } := I.un (Un.write mu he k heo) (I.hok.write mu he k heo new)
theorem Inv.weak {σ' : List (Option V)} (I : Inv X pins σ H s) (hl : σ'.length = σ.length) (w : ∀ (i : Nat) v, σ'[i]? = some (some v) → σ[i]? = some (some v)) : Inv X pins σ' H s :=
  ⟨I.ok, I.os, I.bare, I.base, let ⟨m, hn, hl'⟩ := I.loc; ⟨m, hn, fun i x v e1 e2 e3 => hl' i x v e1 (w i v e2) e3⟩, I.cell, I.free, I.freeC, I.pin, I.hok, hl.trans I.len⟩
theorem Inv.pins_of {pins' : List (Addr × Obj)} (I : Inv X pins σ H s) (h : ∀ p ∈ pins', s.heap.get? p.1 = some p.2 ∧ H p.1 = none ∧ p.1 ≠ X.env.locals ∧ p.1 ∉ X.fs ∧ ∀ v, p.2.data ≠ .cell v) : Inv X pins' σ H s :=
  ⟨I.ok, I.os, I.bare, I.base, I.loc, I.cell, I.free, I.freeC, fun p hp => (List.mem_append.mp hp).elim (fun z => I.pin p (List.mem_append_left _ z)) (h p), I.hok, I.len⟩
theorem nodup_ix {N : List Str} (hN : N.Nodup) {i j : Nat} {x : Str} (a : N[i]? = some x) (b : N[j]? = some x) : i = j := by
  obtain ⟨h1, e1⟩ := List.getElem?_eq_some_iff.mp a
  obtain ⟨h2, e2⟩ := List.getElem?_eq_some_iff.mp b
  exact (List.getElem_inj hN).mp (e1.trans e2.symm)
theorem store_ok2 {M : Model} {A : Around} {E : Value → Shared → Prop} {i : Nat} {x : Str} {v : V} {u : Value} {Q : Unit → Shared → Prop} (I : Inv X pins σ H s) (hN : X.N.Nodup) (hi : X.N[i]? = some x) (hx : Loc X.env.scope x) (r : RelV v u)
    (h : ∀ s', Inv X pins (σ.set i (some v)) H s' → (∃ a, Heap.SameBut a s.heap s'.heap ∧ (a = X.env.locals ∨ X.env.cells.lookup x = some a)) → Q () s') (hf : X.fn x = true ∨ X.env.scope.names.lookup x = some .local := by first | exact .inl rfl | exact .inr rfl | assumption) : wpAny M A (storeName X.env x u) Q E s := by
  obtain ⟨m, hn, hl⟩ := id I.loc
  have hcls : (X.env.scope.kind == .class || (X.env.scope.kind == .module && X.env.locals != X.env.globals)) = false := by rw [I.ok.kind]; rfl
  have hiσ : i < σ.length := by rw [I.len]; exact (List.getElem?_eq_some_iff.mp hi).1
  have cne := I.cne
  have tracked : ∀ {a : Addr} {h' : Heap}, (∃ o, s.heap.get? a = some o ∧ H a = none) → Heap.SameBut a s.heap h' → HOk X.prog X.w H h' := fun {a h'} ha hs b ob e => by
    obtain ⟨_, _, hfree⟩ := ha
    refine (I.hok b ob e).stay (fun c w' hc q => (hs.2 c ?_).trans q) (fun _ q => q) fun _ _ q => q
    rintro rfl
    rcases hc with rfl | hc
    · rw [hfree] at e; cases e
    · rw [hfree] at hc; cases hc
  rcases hx with hk | hk
  · refine wpAny_storeName_local hk hn (fun h' hn' hs => ?_) hcls
    obtain ⟨oL, _, _, hoL, _⟩ := id hn
    refine h _ ⟨I.ok, I.os, I.bare, ⟨fun b o e n hb hx => ?_, fun b o e n hb hx => ?_, I.base.free, fun b o e hx => ?_, I.base.tups, I.base.frzs, I.base.tbls⟩, ⟨_, hn', fun j y v' e1 e2 e3 => ?_⟩, fun y c e => ?_, I.free, I.freeC, fun p hp => ?_, tracked ⟨oL, hoL, I.free⟩ hs, by simpa using I.len⟩ ⟨_, hs, .inl rfl⟩
    · exact (hs.2 b (Nat.ne_of_lt (Nat.lt_of_lt_of_le (Heap.lt_size e) I.ok.above))).trans (I.base.keep b o e n hb hx)
    · obtain ⟨sl, e1⟩ := I.base.slot b o e n hb hx
      exact ⟨sl, (hs.2 b (Nat.ne_of_lt (Nat.lt_of_lt_of_le (Heap.lt_size e) I.ok.above))).trans e1⟩
    · obtain ⟨o', e1⟩ := I.base.there b o e hx
      exact ⟨o', (hs.2 b (Nat.ne_of_lt (Nat.lt_of_lt_of_le (Heap.lt_size e) I.ok.above))).trans e1⟩
    · by_cases hj : j = i
      · subst hj
        rw [hi] at e1; cases e1
        rw [List.getElem?_set_self hiσ] at e2
        cases e2
        exact ⟨u, r, .inl ⟨hk, by simp⟩⟩
      · rw [List.getElem?_set_ne (Ne.symm hj)] at e2
        obtain ⟨u', r', q⟩ := hl j y v' e1 e2 e3
        refine ⟨u', r', ?_⟩
        rcases q with ⟨k, e⟩ | ⟨k, c, e, z⟩
        · refine .inl ⟨k, ?_⟩
          have : y ≠ x := fun e => hj (nodup_ix hN e1 (e ▸ hi))
          simp [this, e]
        · exact .inr ⟨k, c, e, z.sameBut hs (cne y c e)⟩
    · obtain ⟨w', z⟩ := I.cell y c e
      exact ⟨w', z.sameBut hs (cne y c e)⟩
    · obtain ⟨e, n, ne, nf, d⟩ := I.pin p hp
      exact ⟨(hs.2 p.1 ne).trans e, n, ne, nf, d⟩
  · have hfn : X.fn x = true := by
      rcases hf with z | z
      · exact z
      · rw [z] at hk; cases hk
    obtain ⟨c, hc⟩ := I.ok.has x (.inl hk)
    obtain ⟨w', z⟩ := I.cell x c hc
    refine wpAny_storeName_cell I.ok.kind hk hc z (fun h' hc' hs => ?_)
    obtain ⟨oc, hoc, hocd⟩ := id z
    refine h { s with heap := h' } ⟨I.ok, I.os, I.bare, ⟨fun b o e n hb hx => ?_, fun b o e n hb hx => ?_, I.base.free, fun b o e hx => ?_, I.base.tups, I.base.frzs, I.base.tbls⟩, ⟨m, hn.sameBut hs (Ne.symm (cne x c hc)), fun j y v' e1 e2 e3 => ?_⟩, fun y c' e => ?_, I.free, I.freeC, fun p hp => ?_, tracked ⟨oc, hoc, I.freeC x c hc⟩ hs, by simpa using I.len⟩ ⟨c, hs, .inr hc⟩
    · exact (hs.2 b (Nat.ne_of_lt (Nat.lt_of_lt_of_le (Heap.lt_size e) (I.ok.cab x c hfn hc)))).trans (I.base.keep b o e n hb hx)
    · obtain ⟨sl, e1⟩ := I.base.slot b o e n hb hx
      exact ⟨sl, (hs.2 b (Nat.ne_of_lt (Nat.lt_of_lt_of_le (Heap.lt_size e) (I.ok.cab x c hfn hc)))).trans e1⟩
    · obtain ⟨o', e1⟩ := I.base.there b o e hx
      exact ⟨o', (hs.2 b (Nat.ne_of_lt (Nat.lt_of_lt_of_le (Heap.lt_size e) (I.ok.cab x c hfn hc)))).trans e1⟩
    · by_cases hj : j = i
      · subst hj
        rw [hi] at e1; cases e1
        rw [List.getElem?_set_self hiσ] at e2
        cases e2
        exact ⟨u, r, .inr ⟨.inl hk, c, hc, hc'⟩⟩
      · rw [List.getElem?_set_ne (Ne.symm hj)] at e2
        obtain ⟨u', r', q⟩ := hl j y v' e1 e2 e3
        refine ⟨u', r', ?_⟩
        rcases q with q | ⟨k, c', e, z'⟩
        · exact .inl q
        · refine .inr ⟨k, c', e, z'.sameBut hs ?_⟩
          rintro rfl
          exact hj (nodup_ix hN e1 (I.ok.inj _ _ _ e hc ▸ hi))
    · by_cases hcc : c' = c
      · subst hcc; exact ⟨_, hc'⟩
      · obtain ⟨w2, z2⟩ := I.cell y c' e
        exact ⟨w2, z2.sameBut hs hcc⟩
    · obtain ⟨e, n, ne, nf, d⟩ := I.pin p hp
      refine ⟨(hs.2 p.1 ?_).trans e, n, ne, nf, d⟩
      intro q
      rw [q, hoc] at e
      have q' : oc = p.2 := Option.some.inj e
      exact d w' (by rw [← q']; exact hocd)
theorem store_ok {M : Model} {A : Around} {E : Value → Shared → Prop} {i : Nat} {x : Str} {v : V} {u : Value} {Q : Unit → Shared → Prop} (I : Inv X pins σ H s) (hN : X.N.Nodup) (hi : X.N[i]? = some x) (hx : Loc X.env.scope x) (r : RelV v u)
    (h : ∀ s', Inv X pins (σ.set i (some v)) H s' → Q () s') (hf : X.fn x = true ∨ X.env.scope.names.lookup x = some .local := by first | exact .inl rfl | exact .inr rfl | assumption) : wpAny M A (storeName X.env x u) Q E s :=
  store_ok2 I hN hi hx r (fun s' I' _ => h s' I') hf
theorem Inv.call' {s' : Shared} {ch : List Addr} (I : Inv X pins σ H s) (ho : s'.os = s.os) (u : Un (frs X.stack) ch H H' s.heap s'.heap) (hok : HOk X.prog X.w H' s'.heap) (hg : AllBare s'.gens)
    (hch : ∀ b ∈ ch, (b ∈ X.ex ∨ X.s_0.heap.objs.size ≤ b) ∧ b ≠ X.env.locals ∧ (∀ x c, X.env.cells.lookup x = some c → c ≠ b) ∧ ∀ p ∈ X.pn ++ pins, p.1 ≠ b) : Inv X pins σ H' s' := by
  obtain ⟨h', g', d', t', o'⟩ := s'
  have e : o' = s.os := ho
  subst e
  exact I.call (g' := g') (t' := t') (d' := d') u hok hg hch
end
abbrev XK := Value → Option Addr → Hp → Prop
abbrev St := List (Option V)
abbrev VK := V → Hp → Prop
abbrev TE := St → Hp → VK → Prop
abbrev TT := St → Hp → (Bool → Hp → Prop) → Prop
abbrev TA := St → Hp → (List V → Hp → Prop) → Prop
structure Ends where
  nx : St → Hp → Prop
  rt : VK
  bk : St → Hp → Prop := fun _ _ => False
  ct : St → Hp → Prop := fun _ _ => False
abbrev TS := Ends → St → Hp → Prop
def EP (X : Cx) (pins : List (Addr × Obj)) (σ : St) (Q : VK) (u : Value) (s' : Shared) : Prop := ∃ v H', Inv X pins σ H' s' ∧ RelV v u ∧ Q v H'
def TP (X : Cx) (pins : List (Addr × Obj)) (σ : St) (Q : Bool → Hp → Prop) (b : Bool) (s' : Shared) : Prop := ∃ H', Inv X pins σ H' s' ∧ Q b H'
def AP (X : Cx) (pins : List (Addr × Obj)) (σ : St) (Q : List V → Hp → Prop) (us : List Value) (s' : Shared) : Prop := ∃ vs H', Inv X pins σ H' s' ∧ Vals vs us ∧ Q vs H'
def SP (X : Cx) (pins : List (Addr × Obj)) (D : Ends) (f : Flow) (s' : Shared) : Prop :=
  match f with
  | .next => ∃ σ' H', Inv X pins σ' H' s' ∧ D.nx σ' H'
  | .brk => ∃ σ' H', Inv X pins σ' H' s' ∧ D.bk σ' H'
  | .cont => ∃ σ' H', Inv X pins σ' H' s' ∧ D.ct σ' H'
  | .ret u => ∃ v σ' H', Inv X pins σ' H' s' ∧ RelV v u ∧ D.rt v H'
def PE (X : Cx) (e : Expr) (t : TE) : Prop :=
  ∀ (pins : List (Addr × Obj)) (s : Shared) (σ : St) (H : Hp) (Q : VK), Inv X pins σ H s → t σ H Q → wpAny (model X.prog X.w) X.A (eval e X.env) (EP X pins σ Q) X.xe s
def PT (X : Cx) (e : Expr) (t : TT) : Prop :=
  ∀ (pins : List (Addr × Obj)) (s : Shared) (σ : St) (H : Hp) (Q : Bool → Hp → Prop), Inv X pins σ H s → t σ H Q → wpAny (model X.prog X.w) X.A (isTrue e X.env (eval e X.env)) (TP X pins σ Q) X.xe s
def PW (X : Cx) (e : Expr) (t : TT) : Prop :=
  ∀ (whole : Sem Value) (pins : List (Addr × Obj)) (s : Shared) (σ : St) (H : Hp) (Q : Bool → Hp → Prop), Inv X pins σ H s → t σ H Q → wpAny (model X.prog X.w) X.A (isTrue e X.env whole) (TP X pins σ Q) X.xe s
theorem PW.pt {X : Cx} {e : Expr} {t : TT} (h : PW X e t) : PT X e t := h _
def PA (X : Cx) (es : List Expr) (t : TA) : Prop :=
  ∀ (pos : Pos) (pins : List (Addr × Obj)) (s : Shared) (σ : St) (H : Hp) (Q : List V → Hp → Prop), Inv X pins σ H s → t σ H Q → wpAny (model X.prog X.w) X.A (spliced (backTo pos (starEach es X.env))) (AP X pins σ Q) X.xe s
def PS (X : Cx) (st : Stmt) (t : TS) : Prop :=
  ∀ (pins : List (Addr × Obj)) (s : Shared) (σ : St) (H : Hp) (D : Ends), Inv X pins σ H s → t D σ H → wpAny (model X.prog X.w) X.A (exec st X.env) (SP X pins D) X.xe s
def PSs (X : Cx) (st : List Stmt) (t : TS) : Prop :=
  ∀ (pins : List (Addr × Obj)) (s : Shared) (σ : St) (H : Hp) (D : Ends), Inv X pins σ H s → t D σ H → wpAny (model X.prog X.w) X.A (execs st X.env) (SP X pins D) X.xe s
theorem thn {α : Type} {t : Sem α} {Q Q' : α → Shared → Prop} {M : Model} {A : Around} {E : Value → Shared → Prop} {s : Shared} (h : wpAny M A t Q E s) (hQ : ∀ a s, Q a s → Q' a s) : wpAny M A t Q' E s := wpAny_mono h hQ fun _ _ x => x
end L2
namespace L2
open PySem PySem.Spec PyProof.Rows
section
variable {X : Cx}
theorem bin {a b : Expr} {ta tb : TE} (ha : PE X a ta) (hb : PE X b tb) {pins : List (Addr × Obj)} {s : Shared} {σ : St} {H : Hp} {R : V → V → Hp → Prop} (I : Inv X pins σ H s) (h : ta σ H fun x H1 => tb σ H1 fun y H2 => R x y H2)
    {α : Type} {Q : α → Shared → Prop} {f : Value → Value → Sem α}
    (hf : ∀ v u s2 x y H2, Inv X pins σ H2 s2 → RelV x v → RelV y u → R x y H2 → wpAny (model X.prog X.w) X.A (f v u) Q X.xe s2) :
    wpAny (model X.prog X.w) X.A (eval a X.env) (fun v s₁ => wpAny (model X.prog X.w) X.A (eval b X.env) (fun u s₂ => wpAny (model X.prog X.w) X.A (f v u) Q X.xe s₂) X.xe s₁) X.xe s := by
  refine thn (ha pins s σ H _ I h) fun v s1 ⟨x, H1, I1, r1, q1⟩ => ?_
  refine thn (hb pins s1 σ H1 _ I1 q1) fun u s2 ⟨y, H2, I2, r2, q2⟩ => ?_
  exact hf v u s2 x y H2 I2 r1 r2 q2
def tVar (i : Nat) : TE := fun σ H Q => ∃ v, σ[i]? = some (some v) ∧ Q v H
def tC (v : V) : TE := fun _ H Q => Q v H
theorem pe_var {i : Nat} {x : Str} {pos : Pos} (hN : X.N[i]? = some x) (hv : Vis X.env.scope x) (hd : (x == ("__debug__" : Str)) = false := by decide) (hcd : (x == ("__classdict__" : Str)) = false := by decide) : PE X (.Name x pos) (tVar i) := by
  intro pins s σ H Q I h
  obtain ⟨v, e, h⟩ := h
  obtain ⟨m, hn, hl⟩ := I.loc
  obtain ⟨u, r, l⟩ := hl i x v hN e hv
  have fin : EP X pins σ Q u s := ⟨v, H, I, r, h⟩
  rcases l with ⟨hk, hm⟩ | ⟨hk, c, hc, hcell⟩
  · exact wpAny_Name (wpAny_loadName_local I.ok.kind hk hn hm fin) hd
  · rcases hk with hk | hk
    · exact wpAny_Name (wpAny_loadName_cell I.ok.kind hk hc hcell fin) hd
    · exact wpAny_Name (wpAny_loadName_free I.ok.kind hk hc hcell fin hcd) hd
theorem pe_int {i j pos} : PE X (.Constant (.int i) j pos) (tC (.int i)) := fun _ _ _ H _ I h => wpAny_Constant_int ⟨.int i, H, I.tok _, ⟨_, rfl⟩, h⟩
theorem pe_bl {b j pos} : PE X (.Constant (.bool b) j pos) (tC (.bl b)) := fun _ _ _ H _ I h => Constant_bool ⟨.bl b, H, I, rfl, h⟩
theorem pe_non {j pos} : PE X (.Constant .none j pos) (tC .non) := fun _ _ _ H _ I h => Constant_none ⟨.non, H, I, rfl, h⟩
def Gl (X : Cx) (x : Str) : Prop := X.env.kindOf x = some .globalImplicit
theorem ld_glob {E : Value → Shared → Prop} {pins : List (Addr × Obj)} {s : Shared} {σ : St} {H : Hp} {x : Str} {u : Value} {pos : Pos} {Q : Value → Shared → Prop} (I : Inv X pins σ H s) (hg : Gl X x) (hm : X.mg x = some u) (h : Q u s)
    (hd : (x == ("__debug__" : Str)) = false := by decide) : wpAny (model X.prog X.w) X.A (eval (.Name x pos) X.env) Q E s :=
  Calls.Name_function_global I.ok.kind hg (Calls.loadGlobal_global (by rw [I.ok.glob]; exact I.mod.glob.keeps I.bk) hm h) hd
theorem ld_blt {E : Value → Shared → Prop} {pins : List (Addr × Obj)} {s : Shared} {σ : St} {H : Hp} {x : Str} {u : Value} {pos : Pos} {Q : Value → Shared → Prop} (I : Inv X pins σ H s) (hg : Gl X x) (hm : X.mg x = none) (hv : bootBuiltins x = some u) (h : Q u s)
    (hn : x ≠ "__name__" := by decide) (hd : (x == ("__debug__" : Str)) = false := by decide) : wpAny (model X.prog X.w) X.A (eval (.Name x pos) X.env) Q E s := by
  obtain ⟨mb, h1, h2⟩ := I.mod.blt
  exact Calls.Name_function_global I.ok.kind hg (Calls.loadGlobal_builtin (by rw [I.ok.glob]; exact I.mod.glob.keeps I.bk) hm (by rw [I.ok.blt]; exact h1.keeps I.bk) ((h2 x hn).trans hv) h) hd
theorem pe_glob {x : Str} {v : V} {u : Value} {pos : Pos} (hg : Gl X x) (hm : X.mg x = some u) (r : RelV v u) (hd : (x == ("__debug__" : Str)) = false := by decide) : PE X (.Name x pos) (tC v) :=
  fun _ _ _ H _ I h => ld_glob I hg hm ⟨v, H, I, r, h⟩ hd
variable {a b : Expr} {ta tb : TE} {pos : Pos}
def PC (X : Cx) (op : CmpOp) (a b : Expr) (t : TE) : Prop :=
  ∀ (pins : List (Addr × Obj)) (s : Shared) (σ : St) (H : Hp) (Q : VK), Inv X pins σ H s → t σ H Q →
    wpAny (model X.prog X.w) X.A (eval a X.env) (fun v s₁ => wpAny (model X.prog X.w) X.A (eval b X.env) (fun u s₂ => wpAny (model X.prog X.w) X.A (compareOp op v u) (EP X pins σ Q) X.xe s₂) X.xe s₁) X.xe s
theorem nobehind (b : Expr) {op : CmpOp} (h : op ≠ .In) (h2 : op ≠ .NotIn) : behindInMarks op b = false := by
  have e1 : (op == CmpOp.In) = false := by cases op <;> first | rfl | exact absurd rfl h
  have e2 : (op == CmpOp.NotIn) = false := by cases op <;> first | rfl | exact absurd rfl h2
  cases b <;> simp [behindInMarks, e1, e2]
def tB (t : TE) : TT := fun σ H Q => t σ H fun x H1 => ∃ c, x = .bl c ∧ Q c H1
theorem pt_cmp {op : CmpOp} {t : TE} (h : PC X op a b t) (h1 : behindInMarks op b = false := by first | exact nobehind _ (by decide) (by decide) | rfl) : PT X (.Compare a [op] [b] pos) (tB t) := by
  intro pins s σ H Q I hw
  refine wpAny_isTrue_Compare1 (thn (h pins s σ H _ I hw) fun v s1 h1 => thn h1 fun u s2 h2 => thn h2 fun c s3 ⟨x, H1, I1, r1, q1⟩ => ?_) h1
  obtain ⟨d, rfl, q⟩ := q1
  cases r1
  exact wpAny_truthy_bool ⟨H1, I1, q⟩
theorem pt_val {e : Expr} {t : TE} (h : PE X e t) (he : ∀ whole, isTrue e X.env whole = (do let v ← whole; standAt e.pos; holding [v] (truthy v)) := by intro _; rfl) : PT X e (tB t) := by
  intro pins s σ H Q I hw
  refine isTrue_plain (thn (h pins s σ H _ I hw) fun v s1 ⟨x, H1, I1, r1, q1⟩ => ?_) (he _)
  obtain ⟨d, rfl, q⟩ := q1
  cases r1
  exact wpAny_truthy_bool ⟨H1, I1, q⟩
variable {tA tB' : TT} {rest : List Expr}
def tAnd (t u : TT) : TT := fun σ H Q => t σ H fun c H1 => if c = true then u σ H1 Q else Q false H1
def tOr (t u : TT) : TT := fun σ H Q => t σ H fun c H1 => if c = true then Q true H1 else u σ H1 Q
def tNot (t : TT) : TT := fun σ H Q => t σ H fun c H1 => Q (!c) H1
theorem pw_and1 (ha : PT X a tA) : PW X (.BoolOp .And [a] pos) tA := by
  intro wh pins s σ H Q I h
  refine isTrue_and (thn (ha pins s σ H Q I h) fun c s1 e => ?_)
  cases c with
  | true => exact isTrue_and_nil e
  | false => exact e
theorem pw_or1 (ha : PT X a tA) : PW X (.BoolOp .Or [a] pos) tA := by
  intro wh pins s σ H Q I h
  refine isTrue_or (thn (ha pins s σ H Q I h) fun c s1 e => ?_)
  cases c with
  | false => exact isTrue_or_nil e
  | true => exact e
theorem pw_and (ha : PT X a tA) (hb : PW X (.BoolOp .And (b :: rest) pos) tB') : PW X (.BoolOp .And (a :: b :: rest) pos) (tAnd tA tB') := by
  intro wh pins s σ H Q I h
  refine isTrue_and (thn (ha pins s σ H _ I h) fun c s1 ⟨H1, I1, q1⟩ => ?_)
  cases c with
  | true => exact hb wh pins s1 σ H1 Q I1 q1
  | false => exact ⟨H1, I1, q1⟩
theorem pw_or (ha : PT X a tA) (hb : PW X (.BoolOp .Or (b :: rest) pos) tB') : PW X (.BoolOp .Or (a :: b :: rest) pos) (tOr tA tB') := by
  intro wh pins s σ H Q I h
  refine isTrue_or (thn (ha pins s σ H _ I h) fun c s1 ⟨H1, I1, q1⟩ => ?_)
  cases c with
  | true => exact ⟨H1, I1, q1⟩
  | false => exact hb wh pins s1 σ H1 Q I1 q1
theorem pt_not (ha : PT X a tA) : PT X (.UnaryOp .Not a pos) (tNot tA) := by
  intro pins s σ H Q I h
  exact isTrue_not (ha pins s σ H (fun c H1 => Q (!c) H1) I h)
def tAndV (ta tb : TE) : TE := fun σ H Q => ta σ H fun x H1 => ∃ c, x = .bl c ∧ if c = true then tb σ H1 Q else Q (.bl false) H1
theorem pe_one {op} {t : TE} (h : PE X a t) : PE X (.BoolOp op [a] pos) t := fun pins s σ H Q I hw => BoolOp_one (h pins s σ H Q I hw)
theorem pe_and (ha : PE X a ta) (hb : PE X (.BoolOp .And (b :: rest) pos) tb) : PE X (.BoolOp .And (a :: b :: rest) pos) (tAndV ta tb) := by
  intro pins s σ H Q I h
  refine BoolOp_and (thn (ha pins s σ H _ I h) fun v s1 ⟨x, H1, I1, r1, q1⟩ => ?_)
  obtain ⟨c, rfl, q1⟩ := q1
  cases r1
  refine wpAny_truthy_bool ?_
  cases c with
  | true => exact hb pins s1 σ H1 Q I1 q1
  | false => exact ⟨.bl false, H1, I1, rfl, q1⟩
def tIf (t : TT) (ta tb : TE) : TE := fun σ H Q => t σ H fun c H1 => if c = true then ta σ H1 Q else tb σ H1 Q
theorem pe_ifExp {c : Expr} (hc : PT X c tA) (ha : PE X a ta) (hb : PE X b tb) : PE X (.IfExp c a b pos) (tIf tA ta tb) := by
  intro pins s σ H Q I h
  refine wpAny_IfExp (thn (hc pins s σ H _ I h) fun d s1 ⟨H1, I1, q1⟩ => ?_)
  cases d with
  | true => exact ha pins s1 σ H1 Q I1 q1
  | false => exact hb pins s1 σ H1 Q I1 q1
end
end L2
namespace L2
open PySem PySem.Spec PyProof.Rows
def SqL (K : PySem.W.Frag) (H : Hp) (a : Addr) (xs : List V) : Prop :=
  Rd H a (.lst xs) ∨
    ∃ (o : Obj) (its : Array Value) (n : Nat), K.lookup a = some o ∧ o.cls = .type "list" ∧ o.dict = none ∧ o.data = .seq its n ∧ its.size ≤ sizeLine ∧ Vals xs its.toList
def SqT (K : PySem.W.Frag) (H : Hp) (a : Addr) (xs : List V) : Prop :=
  Rd H a (.tup xs) ∨
    ∃ (o : Obj) (its : Array Value) (n : Nat), K.lookup a = some o ∧ o.cls = .type "tuple" ∧ o.data = .seq its n ∧ its.size ≤ sizeLine ∧ Vals xs its.toList
def absV : Value → Option V
  | .none => some .non
  | .bool b => some (.bl b)
  | .int i _ => some (.int i)
  | .str x _ => some (.str x)
  | .bytes b _ => some (.byt b)
  | .float b _ => some (.flt b)
  | .ref a => some (.ref a)
  | .type n => some (.ty n)
  | _ => none
theorem RelV.abs {x : V} {u : Value} (r : RelV x u) : absV u = some x := by
  cases x with
  | non => cases r; rfl
  | bl _ => cases r; rfl
  | int _ => obtain ⟨t, rfl⟩ := r; rfl
  | str _ => obtain ⟨t, rfl⟩ := r; rfl
  | byt _ => obtain ⟨t, rfl⟩ := r; rfl
  | flt _ => obtain ⟨t, rfl⟩ := r; rfl
  | ref _ => cases r; rfl
  | ty _ => cases r; rfl
theorem RelV.inj {x y : V} {u : Value} (r : RelV x u) (q : RelV y u) : x = y := Option.some.inj (r.abs.symm.trans q.abs)
theorem Vals.inj : ∀ {xs ys : List V} {us : List Value}, Vals xs us → Vals ys us → xs = ys
  | _, _, _, .nil, .nil => rfl
  | _, _, _, .cons r t, .cons r' t' => by rw [r.inj r', Vals.inj t t']
section
variable {X : Cx} {pins : List (Addr × Obj)} {σ : St} {H : Hp} {s : Shared} {a : Addr} {xs ys : List V}
theorem SqL.of {K : PySem.W.Frag} (h : H a = some (.lst xs)) : SqL K H a xs := .inl (.inl h)
theorem SqT.of {K : PySem.W.Frag} (h : H a = some (.tup xs)) : SqT K H a xs := .inl (.inl h)
theorem Inv.list (I : Inv X pins σ H s) (h : SqL X.K H a xs) : ∃ its : List Value, Vals xs its ∧ PlainL s.heap a its.toArray ∧ xs.length ≤ sizeLine := by
  rcases h with h | ⟨o, its, n, hk, hc, hd, hs, hz, r⟩
  · obtain ⟨z, its, n, r, e⟩ := h.ok I.hok
    exact ⟨its, r, ⟨_, n, e, rfl, rfl, rfl⟩, z⟩
  · refine ⟨its.toList, r, ⟨o, n, I.kIn a o hk, hc, hd, by simpa using hs⟩, ?_⟩
    have e := r.length
    simp only [Array.length_toList] at e
    omega
theorem Inv.tuple (I : Inv X pins σ H s) (h : SqT X.K H a xs) : ∃ its : List Value, Vals xs its ∧ IsTup s.heap a its.toArray ∧ xs.length ≤ sizeLine := by
  rcases h with h | ⟨o, its, n, hk, hc, hs, hz, r⟩
  · obtain ⟨z, its, r, p⟩ := h.ok I.hok
    exact ⟨its, r, p, z⟩
  · refine ⟨its.toList, r, ⟨o, I.kIn a o hk, hc, n, by simpa using hs⟩, ?_⟩
    have e := r.length
    simp only [Array.length_toList] at e
    omega
theorem Inv.list_inj (I : Inv X pins σ H s) (h : SqL X.K H a xs) (h' : SqL X.K H a ys) : xs = ys := by
  obtain ⟨its, r, ⟨o, n, e, _, _, d⟩, _⟩ := I.list h
  obtain ⟨its', r', ⟨o', n', e', _, _, d'⟩, _⟩ := I.list h'
  rw [e] at e'; cases e'
  rw [d] at d'
  injection d' with d1 _
  have : its = its' := by simpa using congrArg Array.toList d1
  subst this
  exact r.inj r'
theorem Inv.tuple_inj (I : Inv X pins σ H s) (h : SqT X.K H a xs) (h' : SqT X.K H a ys) : xs = ys := by
  obtain ⟨its, r, ⟨o, e, _, n, d⟩, _⟩ := I.tuple h
  obtain ⟨its', r', ⟨o', e', _, n', d'⟩, _⟩ := I.tuple h'
  rw [e] at e'; cases e'
  rw [d] at d'
  injection d' with d1 _
  have : its = its' := by simpa using congrArg Array.toList d1
  subst this
  exact r.inj r'
end
abbrev Cx.wish (X : Cx) (E : Value → Shared → Prop) : Cx := { X with xe := E }
abbrev Cx.nox (X : Cx) : Cx := X.wish fun _ _ => False
theorem Cx.Ok.wish {X : Cx} (ok : X.Ok) (E : Value → Shared → Prop) : (X.wish E).Ok :=
  ⟨ok.mod, ok.kind, ok.glob, ok.blt, ok.above, ok.inj, ok.has, ok.cab, ok.hd, ok.frames, ok.stk, ok.exf, ok.bs, ok.bsz, ok.noex, ok.exfs, ok.funs, ok.frf⟩
theorem Cx.Ok.unwish {X : Cx} {E : Value → Shared → Prop} (ok : (X.wish E).Ok) : X.Ok :=
  ⟨ok.mod, ok.kind, ok.glob, ok.blt, ok.above, ok.inj, ok.has, ok.cab, ok.hd, ok.frames, ok.stk, ok.exf, ok.bs, ok.bsz, ok.noex, ok.exfs, ok.funs, ok.frf⟩
section
variable {X : Cx} {pins : List (Addr × Obj)} {σ : St} {H : Hp} {s : Shared} {E : Value → Shared → Prop}
theorem Inv.wish (I : Inv X pins σ H s) (E : Value → Shared → Prop) : Inv (X.wish E) pins σ H s := ⟨I.ok.wish E, I.os, I.bare, I.base, I.loc, I.cell, I.free, I.freeC, I.pin, I.hok, I.len⟩
theorem Inv.unwish (I : Inv (X.wish E) pins σ H s) : Inv X pins σ H s := ⟨I.ok.unwish, I.os, I.bare, I.base, I.loc, I.cell, I.free, I.freeC, I.pin, I.hok, I.len⟩
theorem SP.unwish {D : Ends} {f : Flow} {s' : Shared} (h : SP (X.wish E) pins D f s') : SP X pins D f s' := by
  cases f with
  | next => obtain ⟨σ', H', I, q⟩ := h; exact ⟨σ', H', I.unwish, q⟩
  | brk => obtain ⟨σ', H', I, q⟩ := h; exact ⟨σ', H', I.unwish, q⟩
  | cont => obtain ⟨σ', H', I, q⟩ := h; exact ⟨σ', H', I.unwish, q⟩
  | ret u => obtain ⟨v, σ', H', I, r, q⟩ := h; exact ⟨v, σ', H', I.unwish, r, q⟩
theorem PSs.nox {st : List Stmt} {t : TS} (h : PSs X.nox st t) : PSs X st t := fun pins s σ H D I hw =>
  wpAny_mono (h pins s σ H D (I.wish _) hw) (fun _ _ q => q.unwish) fun _ _ z => False.elim z
end
section
variable {X : Cx} {st : Stmt} {rest : List Stmt} {t u : TS} {e : Expr} {te : TE} {pos : Pos}
def tNext : TS := fun D σ H => D.nx σ H
def tSeq (t u : TS) : TS := fun D σ H => t { D with nx := u D } σ H
theorem pss_nil : PSs X [] tNext := fun _ _ σ H _ I h => wpAny_execs_nil ⟨σ, H, I, h⟩
theorem pss_cons (h1 : PS X st t) (h2 : PSs X rest u) : PSs X (st :: rest) (tSeq t u) := by
  intro pins s σ H D I h
  refine wpAny_execs_cons (thn (h1 pins s σ H { D with nx := u D } I h) fun f s1 q => ?_)
  cases f with
  | next =>
    obtain ⟨σ', H', I', q⟩ := q
    exact h2 pins s1 σ' H' D I' q
  | ret v => exact q
  | brk => exact q
  | cont => exact q
theorem pss_one (h1 : PS X st t) : PSs X [st] t := by
  intro pins s σ H D I h
  refine wpAny_execs_cons (thn (h1 pins s σ H D I h) fun f s1 q => ?_)
  cases f with
  | next => exact wpAny_execs_nil q
  | ret v => exact q
  | brk => exact q
  | cont => exact q
def tCont : TS := fun D σ H => D.ct σ H
theorem ps_continue : PS X (.Continue pos) tCont := fun _ _ σ H _ I h => wpAny_Continue ⟨σ, H, I, h⟩
theorem Inv.quiet {pins : List (Addr × Obj)} {σ : St} {H : Hp} {s : Shared} (I : Inv X pins σ H s) : interactive X.env = false := by simp [interactive, I.ok.kind]
def tDrop (te : TE) : TS := fun D σ H => te σ H fun _ H1 => D.nx σ H1
theorem ps_expr (he : PE X e te) (hs : swapsWith e none pos.line X.env = pure false := by rfl) : PS X (.Expr e pos) (tDrop te) := by
  intro pins s σ H D I h
  exact wpAny_Expr_any (thn (he pins s σ H _ I h) fun v s1 ⟨x, H1, I1, r1, q1⟩ => ⟨σ, H1, I1, q1⟩) I.quiet hs
def tRet (te : TE) : TS := fun D σ H => te σ H D.rt
theorem ps_ret (he : PE X e te) : PS X (.Return (some e) pos) (tRet te) := by
  intro pins s σ H D I h
  exact wpAny_Return_some (thn (he pins s σ H _ I h) fun v s1 ⟨x, H1, I1, r1, q1⟩ => ⟨x, σ, H1, I1, r1, q1⟩)
def tIfS (c : TT) (t u : TS) : TS := fun D σ H => c σ H fun b H1 => if b = true then t D σ H1 else u D σ H1
theorem ps_if {c : Expr} {a b : List Stmt} {tc : TT} (hc : PT X c tc) (ha : PSs X a t) (hb : PSs X b u) : PS X (.If c a b pos) (tIfS tc t u) := by
  intro pins s σ H D I h
  refine wpAny_If (thn (hc pins s σ H _ I h) fun d s1 ⟨H1, I1, q1⟩ => ?_)
  cases d with
  | true => exact ha pins s1 σ H1 D I1 q1
  | false => exact hb pins s1 σ H1 D I1 q1
end
abbrev TG := V → St → Hp → (St → Hp → Prop) → Prop
def PG (X : Cx) (target : Expr) (t : TG) : Prop :=
  ∀ (pins : List (Addr × Obj)) (s : Shared) (σ : St) (H : Hp) (v : V) (u : Value) (Q : St → Hp → Prop), Inv X pins σ H s → RelV v u → t v σ H Q →
    wpAny (model X.prog X.w) X.A (assign target X.env u) (fun _ s' => ∃ σ' H', Inv X pins σ' H' s' ∧ Q σ' H') X.xe s
abbrev TSet := V → V → V → Hp → (Hp → Prop) → Prop
def PSet (X : Cx) (t : TSet) : Prop :=
  ∀ (pins : List (Addr × Obj)) (s : Shared) (σ : St) (H : Hp) (o i v : V) (ov iv u : Value) (Q : Hp → Prop), Inv X pins σ H s → RelV o ov → RelV i iv → RelV v u → t o i v H Q →
    wpAny (model X.prog X.w) X.A (setItem ov iv u) (fun _ s' => ∃ H', Inv X pins σ H' s' ∧ Q H') X.xe s
section
variable {X : Cx} {pos : Pos}
def gName (i : Nat) : TG := fun v σ H Q => Q (σ.set i (some v)) H
theorem pg_name {i : Nat} {x : Str} (hN : X.N.Nodup) (hi : X.N[i]? = some x) (hx : Loc X.env.scope x) (hf : X.fn x = true ∨ X.env.scope.names.lookup x = some .local := by first | exact .inl rfl | exact .inr rfl | assumption) : PG X (.Name x pos) (gName i) := by
  intro pins s σ H v u Q I r h
  exact wpAny_assign_Name (store_ok I hN hi hx r (fun s' I' => ⟨_, H, I', h⟩) hf)
def gSub (to ti : TE) (t : TSet) : TG := fun v σ H Q => to σ H fun o H1 => ti σ H1 fun i H2 => t o i v H2 fun H3 => Q σ H3
theorem pg_sub {o i : Expr} {to ti : TE} {t : TSet} (ho : PE X o to) (hi : PE X i ti) (hs : PSet X t)
    (ha : ∀ v, assign (.Subscript o i pos) X.env v = (do
      let ov ← holding [v] (eval o X.env)
      let iv ← holding [v, ov] (eval i X.env)
      standAt pos
      holding [v, ov, iv] (setItem ov iv v)
      release [v, ov, iv] []) := by intro _; rfl) : PG X (.Subscript o i pos) (gSub to ti t) := by
  intro pins s σ H v u Q I r h
  rw [ha]
  refine wpAny_bind (wpAny_holding (thn (ho pins s σ H _ I h) fun ov s1 ⟨x, H1, I1, r1, q1⟩ => ?_))
  refine wpAny_bind (wpAny_holding (thn (hi pins s1 σ H1 _ I1 q1) fun iv s2 ⟨y, H2, I2, r2, q2⟩ => ?_))
  refine wpAny_bind (wpAny_standAt (wpAny_bind (wpAny_holding (thn (hs pins s2 σ H2 x y v ov iv u _ I2 r1 r2 r q2) fun _ s3 ⟨H3, I3, q3⟩ => ?_))))
  exact wpAny_release ⟨σ, H3, I3, q3⟩
def tAsg (te : TE) (g : TG) : TS := fun D σ H => te σ H fun x H1 => g x σ H1 D.nx
theorem ps_asg {tg e : Expr} {te : TE} {g : TG} (he : PE X e te) (hg : PG X tg g) (hs : swapsWithSole [tg] e pos.line X.env = pure false := by rfl) (hw : swappedStores [tg] e X.env = pure none := by rfl)
    (h1 : (assignEach [tg] X.env).map (·.2) = [assign tg X.env] := by rfl) : PS X (.Assign [tg] e pos) (tAsg te g) := by
  intro pins s σ H D I h
  refine wpAny_Assign_stores (thn (he pins s σ H _ I h) fun v s1 ⟨x, H1, I1, r1, q1⟩ => ?_) hs hw
  rw [h1]
  exact thn (hg pins s1 σ H1 x v _ I1 r1 q1) fun _ s2 q => q
theorem ps_set {i : Nat} {x : Str} {e : Expr} {te : TE} {pos' : Pos} (hN : X.N.Nodup) (hi : X.N[i]? = some x) (hx : Loc X.env.scope x) (he : PE X e te) (hs : swapsWith e (some (.Name x pos')) pos.line X.env = pure false := by rfl) (hf : X.fn x = true ∨ X.env.scope.names.lookup x = some .local := by first | exact .inl rfl | exact .inr rfl | assumption) :
    PS X (.Assign [.Name x pos'] e pos) (tAsg te (gName i)) := by
  intro pins s σ H D I h
  refine wpAny_Assign_Name (thn (he pins s σ H _ I h) fun v s1 ⟨y, H1, I1, r1, q1⟩ => ?_) hs
  exact store_ok I1 hN hi hx r1 (fun s2 I2 => ⟨_, H1, I2, q1⟩) hf
end
section
variable {X : Cx} {pos : Pos}
def tWhile (c : TT) (tb : TS) : TS := fun D σ H => ∃ W : Nat → St → Hp → Prop, (∃ m, W m σ H) ∧ ∀ m σ H, W m σ H →
  c σ H fun b H1 => if b = true then ∃ N : St → Hp → Prop, (∀ σ' H', N σ' H' → ∃ m', m' < m ∧ W m' σ' H') ∧ tb { D with nx := N, ct := N, bk := D.nx } σ H1 else D.nx σ H1
theorem ps_while {c : Expr} {body : List Stmt} {tc : TT} {tb : TS} (hp : PassesOwn (model X.prog X.w) X.A X.env X.xe) (hc : PT X c tc) (hb : PSs X body tb) : PS X (.While c body [] pos) (tWhile tc tb) := by
  intro pins s σ H D I h
  obtain ⟨W, ⟨m0, w0⟩, turn⟩ := h
  refine wpAny_While (codeAny_whileLoop (fun n s' => ∃ σ' H', Inv X pins σ' H' s' ∧ W n σ' H') ?_ m0 ⟨σ, H, I, w0⟩)
  rintro n s1 ⟨σ1, H1, I1, w1⟩
  refine wpAny_passesOwn hp (thn (hc pins s1 σ1 H1 _ I1 (turn n σ1 H1 w1)) fun b s2 ⟨H2, I2, q2⟩ => ?_)
  cases b with
  | true =>
    obtain ⟨N, hN, q2⟩ := q2
    rw [if_pos rfl]
    refine wpAny_passesOwn hp (thn (hb pins s2 σ1 H2 _ I2 q2) fun f s3 q3 => ?_)
    cases f with
    | next =>
      obtain ⟨σ3, H3, I3, n3⟩ := q3
      obtain ⟨m', hm, w3⟩ := hN σ3 H3 n3
      exact ⟨m', hm, σ3, H3, I3, w3⟩
    | cont =>
      obtain ⟨σ3, H3, I3, n3⟩ := q3
      obtain ⟨m', hm, w3⟩ := hN σ3 H3 n3
      exact ⟨m', hm, σ3, H3, I3, w3⟩
    | brk => exact q3
    | ret v => exact q3
  | false =>
    rw [if_neg Bool.false_ne_true]
    exact wpAny_execs_nil ⟨σ1, H2, I2, q2⟩
end
structure It where
  go : Nat → Hp → Prop
  yld : Nat → Hp → V → Hp → Prop
  stop : Nat → Hp → Prop
def FpOk (X : Cx) (pins : List (Addr × Obj)) (H : Hp) (b : Addr) : Prop :=
  H b = none ∧ b ≠ X.env.locals ∧ b ∉ X.fs ∧ (b ∈ X.ex ∨ X.s_0.heap.objs.size ≤ b) ∧ (∀ x c, X.env.cells.lookup x = some c → c ≠ b) ∧ ∀ p ∈ X.pn ++ pins, p.1 ≠ b
theorem Inv.fpOk {X : Cx} {pins : List (Addr × Obj)} {σ : St} {H H' : Hp} {s : Shared} {b : Addr} (I : Inv X pins σ H s) (hb : s.heap.objs.size ≤ b) (hn : H' b = none) : FpOk X pins H' b := by
  refine ⟨hn, Nat.ne_of_gt (Nat.lt_of_lt_of_le I.lt hb), I.nofs hb, .inr (Nat.le_trans I.sz hb), fun x c e z => ?_, fun p hp z => ?_⟩
  · obtain ⟨v, q⟩ := I.cell x c e
    exact absurd (Nat.lt_of_lt_of_le q.lt (by rw [z]; exact hb)) (Nat.lt_irrefl _)
  · exact absurd (Nat.lt_of_lt_of_le (Heap.lt_size (I.pin p hp).1) (by rw [z]; exact hb)) (Nat.lt_irrefl _)
structure Turn (P : Program) (w : World) (K : PySem.W.Frag) (tg : Expr) (J : It) (fp : List Addr) (it : Addr) (tn : Nat → Heap → Prop) : Prop where
  mem : it ∈ fp
  obj : ∀ i h, tn i h → ∀ b ∈ fp, ∃ o, h.get? b = some o ∧ ∀ v, o.data ≠ .cell v
  keep : ∀ i h h', tn i h → (∀ b ∈ fp, ∀ o, h.get? b = some o → h'.get? b = some o) → tn i h'
  item : ∀ (X : Cx), X.prog = P → X.w = w → X.K = K → X.calm = true → ∀ (i : Nat) (pins : List (Addr × Obj)) (s : Shared) (σ : St) (H : Hp) (E : Value → Shared → Prop), Inv X pins σ H s → (∀ b ∈ fp, FpOk X pins H b) → tn i s.heap → J.go i H →
    wpAny (model P w) X.A (pyNext (.ref it)) (fun r s1 => ∃ u, r = some u ∧
      wpAny (model P w) X.A (letOwnedTupleGo tg (.ref it) u) (fun _ s2 => ∃ x H', Inv X pins σ H' s2 ∧ RelV x u ∧ J.yld i H x H' ∧ tn (i + 1) s2.heap ∧ ∀ b ∈ fp, H' b = none) E s1) E s
  done : ∀ (X : Cx), X.prog = P → X.w = w → X.K = K → X.calm = true → ∀ (i : Nat) (pins : List (Addr × Obj)) (s : Shared) (σ : St) (H : Hp) (E : Value → Shared → Prop), Inv X pins σ H s → (∀ b ∈ fp, FpOk X pins H b) → tn i s.heap → J.stop i H →
    wpAny (model P w) X.A (pyNext (.ref it)) (fun r s1 => r = none ∧ Inv X pins σ H s1) E s
  self : ∀ (A : Around) (i : Nat) (s : Shared) (Q : Value → Shared → Prop) (E : Value → Shared → Prop), tn i s.heap → Q (.ref it) s → wpAny (model P w) A (pyIter (.ref it)) Q E s
abbrev TI := St → Hp → (It → Hp → Prop) → Prop
def PIE (X : Cx) (pins : List (Addr × Obj)) (σ : St) (tg : Expr) (R : It → Hp → Prop) (itv : Value) (s2 : Shared) : Prop :=
  ∃ (it : Addr) (fp : List Addr) (tn : Nat → Heap → Prop) (J : It) (H' : Hp), itv = .ref it ∧ Inv X pins σ H' s2 ∧ Turn X.prog X.w X.K tg J fp it tn ∧ tn 0 s2.heap ∧ (∀ b ∈ fp, FpOk X pins H' b) ∧ R J H'
def PI (X : Cx) (tg iter : Expr) (wi : TI) : Prop :=
  ∀ (pins : List (Addr × Obj)) (s : Shared) (σ : St) (H : Hp) (R : It → Hp → Prop), Inv X pins σ H s → wi σ H R →
    wpAny (model X.prog X.w) X.A (eval iter X.env) (fun v s1 => wpAny (model X.prog X.w) X.A (pyIter v) (PIE X pins σ tg R) X.xe s1) X.xe s
theorem go_of {M : Model} {A : Around} {E : Value → Shared → Prop} {s : Shared} {tg : Expr} {it : Addr} {u : Value} {o : Obj} {n : String} {vs : Array Value} {Q : Unit → Shared → Prop} (ho : s.heap.get? it = some o) (hc : o.cls = .type n) (hd : o.data = .fields vs)
    (hn : ["enumerate", "zip", "dict_itemiterator", "dict_reverseitemiterator", "odict_iterator", "itertools.zip_longest", "itertools.pairwise"].contains n = false) (hQ : Q () s) : wpAny M A (letOwnedTupleGo tg (.ref it) u) Q E s := by
  unfold letOwnedTupleGo
  cases tg <;> first
    | exact wpAny_pure hQ
    | (cases u <;> first
        | exact wpAny_pure hQ
        | (refine wpAny_bind (wpAny_load ho ?_)
           rw [hc, hd]
           show wpAny M A (if (["enumerate", "zip", "dict_itemiterator", "dict_reverseitemiterator", "odict_iterator", "itertools.zip_longest", "itertools.pairwise"].contains n && vs[0]? == some (rawInt _)) = true then _ else _) Q E s
           rw [if_neg (by intro h; rw [hn, Bool.false_and] at h; cases h)]
           exact wpAny_pure hQ))
def Itl (K : PySem.W.Frag) (a : Addr) : It :=
  ⟨fun i H => ∃ xs x, SqL K H a xs ∧ xs[i]? = some x, fun i H x H' => H' = H ∧ ∀ xs, SqL K H a xs → xs[i]? = some x, fun i H => ∃ xs, SqL K H a xs ∧ xs.length ≤ i⟩
def Itt (K : PySem.W.Frag) (a : Addr) : It :=
  ⟨fun i H => ∃ xs x, SqT K H a xs ∧ xs[i]? = some x, fun i H x H' => H' = H ∧ ∀ xs, SqT K H a xs → xs[i]? = some x, fun i H => ∃ xs, SqT K H a xs ∧ xs.length ≤ i⟩
theorem turn_list {P : Program} {w : World} {K : PySem.W.Frag} {tg : Expr} (a it : Addr) : Turn P w K tg (Itl K a) [it] it (fun i h => h.IsListIter it a i) where
  mem := by simp
  obj := fun i h st b hb => by
    have e : b = it := by simpa using hb
    subst e
    obtain ⟨o, e, c, d⟩ := st
    exact ⟨o, e, fun v z => by rw [d] at z; cases z⟩
  keep := fun i h h' st k => st.at fun o e => k it (by simp) o e
  item := by
    intro X hP hw hK hc i pins s σ H E I hf st hg
    subst hP hw hK
    obtain ⟨xs, x, hq, hx⟩ := hg
    obtain ⟨its, rv, p, hz⟩ := I.list hq
    obtain ⟨u, hu, ru⟩ := rv.get hx
    obtain ⟨f0, f1, f2, f3, f4, f5⟩ := hf it (by simp)
    refine wpAny_pyNext_list_item st p.isList (x := u) (by simpa using hu) fun h' st' sb => ?_
    have I1 : Inv X pins σ H { s with heap := h' } := I.turned (t' := s.toks) (fun b o hb e => (sb.2 b hb).trans e) f0 f1 f3 f4 f5
    obtain ⟨o, e, c, d⟩ := id st'
    exact ⟨u, rfl, go_of (s := { s with heap := h' }) e c d (by decide) ⟨x, H, I1, ru, ⟨rfl, fun ys hy => by rw [I.list_inj hy hq]; exact hx⟩, st', fun b hb => (hf b hb).1⟩⟩
  done := by
    intro X hP hw hK hc i pins s σ H E I hf st hg
    subst hP hw hK
    obtain ⟨xs, hq, hx⟩ := hg
    obtain ⟨its, rv, p, hz⟩ := I.list hq
    obtain ⟨f0, f1, f2, f3, f4, f5⟩ := hf it (by simp)
    have hl := rv.length
    exact wpAny_pyNext_list_end (I.ok.hd hc) st p.isList (by simp; omega) fun h' eb => ⟨rfl, I.turned (t' := s.toks) (fun b o hb e => eb b o hb e) f0 f1 f3 f4 f5⟩
  self := fun _ _ _ _ _ st h => wpAny_pyIter_listiter st h
theorem turn_tuple {P : Program} {w : World} {K : PySem.W.Frag} {tg : Expr} (a it : Addr) : Turn P w K tg (Itt K a) [it] it (fun i h => h.IsTupleIter it a i) where
  mem := by simp
  obj := fun i h st b hb => by
    have e : b = it := by simpa using hb
    subst e
    obtain ⟨o, e, c, d⟩ := st
    exact ⟨o, e, fun v z => by rw [d] at z; cases z⟩
  keep := fun i h h' st k => st.at fun o e => k it (by simp) o e
  item := by
    intro X hP hw hK hc i pins s σ H E I hf st hg
    subst hP hw hK
    obtain ⟨xs, x, hq, hx⟩ := hg
    obtain ⟨its, rv, p, hz⟩ := I.tuple hq
    obtain ⟨u, hu, ru⟩ := rv.get hx
    obtain ⟨f0, f1, f2, f3, f4, f5⟩ := hf it (by simp)
    refine wpAny_pyNext_tuple_item st (show s.heap.IsTuple a its.toArray from p) (x := u) (by simpa using hu) fun h' st' sb => ?_
    have I1 : Inv X pins σ H { s with heap := h' } := I.turned (t' := s.toks) (fun b o hb e => (sb.2 b hb).trans e) f0 f1 f3 f4 f5
    obtain ⟨o, e, c, d⟩ := id st'
    exact ⟨u, rfl, go_of (s := { s with heap := h' }) e c d (by decide) ⟨x, H, I1, ru, ⟨rfl, fun ys hy => by rw [I.tuple_inj hy hq]; exact hx⟩, st', fun b hb => (hf b hb).1⟩⟩
  done := by
    intro X hP hw hK hc i pins s σ H E I hf st hg
    subst hP hw hK
    obtain ⟨xs, hq, hx⟩ := hg
    obtain ⟨its, rv, p, hz⟩ := I.tuple hq
    obtain ⟨f0, f1, f2, f3, f4, f5⟩ := hf it (by simp)
    have hl := rv.length
    exact wpAny_pyNext_tuple_end (I.ok.hd hc) st (show s.heap.IsTuple a its.toArray from p) (by simp; omega) fun h' eb => ⟨rfl, I.turned (t' := s.toks) (fun b o hb e => eb b o hb e) f0 f1 f3 f4 f5⟩
  self := fun _ _ _ _ _ st h => wpAny_pyIter_tupleiter st h
end L2
namespace L2
open PySem PySem.Spec PyProof.Rows
section
variable {X : Cx} {tg : Expr}
def iList (K : PySem.W.Frag) (tl : TE) : TI := fun σ H R => tl σ H fun x H1 => ∃ a, x = .ref a ∧ (∃ xs, SqL K H1 a xs) ∧ R (Itl K a) H1
def iTup (K : PySem.W.Frag) (tl : TE) : TI := fun σ H R => tl σ H fun x H1 => ∃ a, x = .ref a ∧ (∃ xs, SqT K H1 a xs) ∧ R (Itt K a) H1
theorem pi_list {l : Expr} {tl : TE} (hl : PE X l tl) : PI X tg l (iList X.K tl) := by
  intro pins s σ H R I h
  refine thn (hl pins s σ H _ I h) fun v s1 ⟨x, H1, I1, r1, q1⟩ => ?_
  obtain ⟨a, e, ⟨xs, hq⟩, q⟩ := q1
  subst e
  cases r1
  obtain ⟨its, rv, p, hz⟩ := I1.list hq
  refine wpAny_pyIter_list p.isList ?_
  refine ⟨s1.heap.objs.size, [s1.heap.objs.size], _, _, H1, rfl, I1.kept (t' := s1.toks) fun b o e => Heap.get?_push_of_some _ e, turn_list a _, ⟨_, Heap.get?_push_size _ rfl, rfl, rfl⟩, fun b hb => ?_, q⟩
  have e : b = s1.heap.objs.size := by simpa using hb
  subst e
  exact I1.fpOk (Nat.le_refl _) (I1.hok.fresh (Nat.le_refl _))
theorem pi_tup {l : Expr} {tl : TE} (hl : PE X l tl) : PI X tg l (iTup X.K tl) := by
  intro pins s σ H R I h
  refine thn (hl pins s σ H _ I h) fun v s1 ⟨x, H1, I1, r1, q1⟩ => ?_
  obtain ⟨a, e, ⟨xs, hq⟩, q⟩ := q1
  subst e
  cases r1
  obtain ⟨its, rv, p, hz⟩ := I1.tuple hq
  refine wpAny_pyIter_tuple (show s1.heap.IsTuple a its.toArray from p) ?_
  refine ⟨s1.heap.objs.size, [s1.heap.objs.size], _, _, H1, rfl, I1.kept (t' := s1.toks) fun b o e => Heap.get?_push_of_some _ e, turn_tuple a _, ⟨_, Heap.get?_push_size _ rfl, rfl, rfl⟩, fun b hb => ?_, q⟩
  have e : b = s1.heap.objs.size := by simpa using hb
  subst e
  exact I1.fpOk (Nat.le_refl _) (I1.hok.fresh (Nat.le_refl _))
def tFor (wi : TI) (g : TG) (tb : TS) : TS := fun D σ H => wi σ H fun J H1 => ∃ W : Nat → Nat → St → Hp → Prop, (∃ m, W 0 m σ H1) ∧ ∀ i m σ H, W i m σ H →
  (J.stop i H ∧ D.nx σ H) ∨ (J.go i H ∧ ∃ N : St → Hp → Prop, (∀ σ' H', N σ' H' → ∃ m', m' < m ∧ W (i + 1) m' σ' H') ∧ ∀ x H', J.yld i H x H' → g x σ H' fun σ2 H2 => tb { D with nx := N, ct := N, bk := D.nx } σ2 H2)
def pinsAt (fp : List Addr) (h : Heap) : List (Addr × Obj) := fp.filterMap fun b => (h.get? b).map fun o => (b, o)
theorem mem_pinsAt {fp : List Addr} {h : Heap} {b : Addr} {o : Obj} (hb : b ∈ fp) (e : h.get? b = some o) : (b, o) ∈ pinsAt fp h := List.mem_filterMap.mpr ⟨b, hb, by rw [e]; rfl⟩
theorem of_pinsAt {fp : List Addr} {h : Heap} {p : Addr × Obj} (hp : p ∈ pinsAt fp h) : p.1 ∈ fp ∧ h.get? p.1 = some p.2 := by
  obtain ⟨b, hb, e⟩ := List.mem_filterMap.mp hp
  cases q : h.get? b with
  | none => rw [q] at e; cases e
  | some o =>
    rw [q] at e
    have e' : (b, o) = p := Option.some.inj e
    subst e'
    exact ⟨hb, q⟩
theorem Inv.pinned {pins : List (Addr × Obj)} {σ : St} {H : Hp} {s : Shared} {fp : List Addr} (I : Inv X pins σ H s) (hf : ∀ b ∈ fp, FpOk X pins H b) (ho : ∀ b ∈ fp, ∃ o, s.heap.get? b = some o ∧ ∀ v, o.data ≠ .cell v) : Inv X (pins ++ pinsAt fp s.heap) σ H s :=
  I.pins_of fun p hp => (List.mem_append.mp hp).elim (fun z => I.pin p (List.mem_append_right _ z)) fun z => by
    obtain ⟨hb, e⟩ := of_pinsAt z
    obtain ⟨f0, f1, f2, _⟩ := hf p.1 hb
    obtain ⟨o, e', d⟩ := ho p.1 hb
    rw [e] at e'; cases e'
    exact ⟨e, f0, f1, f2, d⟩
theorem Inv.unpinned {pins pl : List (Addr × Obj)} {σ : St} {H : Hp} {s : Shared} (I : Inv X (pins ++ pl) σ H s) : Inv X pins σ H s := I.pins_of fun p hp => I.pin p (List.mem_append_right _ (List.mem_append_left _ hp))
theorem ps_for {iter : Expr} {body : List Stmt} {wi : TI} {g : TG} {tb : TS} {pos : Pos} (hp : PassesOwn (model X.prog X.w) X.A X.env X.xe) (hc : X.calm = true) (hi : PI X tg iter wi) (hg : PG X tg g) (hb : PSs X body tb)
    (hs : ∀ x, foldedSetIterable iter X.env x = pure x := by intro _; rfl) : PS X (.For tg iter body [] pos) (tFor wi g tb) := by
  intro pins s σ H D I h
  refine wpAny_For (thn (hi pins s σ H _ I h) fun v s1 h1 => thn h1 fun itv s2 h2 => ?_) hs
  obtain ⟨it, fp, tn, J, H2, e, I2, T, st2, f2, W, ⟨m0, w0⟩, turn⟩ := h2
  subst e
  have stat : ∀ {H' : Hp}, (∀ b ∈ fp, H' b = none) → ∀ b ∈ fp, FpOk X pins H' b := fun hn b hb => ⟨hn b hb, (f2 b hb).2⟩
  refine codeAny_forLoop_any (fun n s' => ∃ i σ' H', Inv X pins σ' H' s' ∧ tn i s'.heap ∧ (∀ b ∈ fp, H' b = none) ∧ W i n σ' H') ?_ m0 ⟨0, σ, H2, I2, st2, fun b hb => (f2 b hb).1, w0⟩
  rintro n s3 ⟨i, σ3, H3, I3, st3, fr3, w3⟩
  rcases turn i n σ3 H3 w3 with ⟨stop, qn⟩ | ⟨go, N, hN, step⟩
  · refine wpAny_passesOwn hp (thn (T.done X rfl rfl rfl hc i pins s3 σ3 H3 X.xe I3 (stat fr3) st3 stop) fun r s4 ⟨hr, I4⟩ => ?_)
    subst hr
    exact wpAny_execs_nil ⟨σ3, H3, I4, qn⟩
  · refine wpAny_passesOwn hp (thn (T.item X rfl rfl rfl hc i pins s3 σ3 H3 X.xe I3 (stat fr3) st3 go) fun r s4 ⟨u, hr, h4⟩ => ?_)
    subst hr
    refine wpAny_passesOwn hp (thn h4 fun _ s5 ⟨x, H5, I5, r5, y5, st5, fr5⟩ => ?_)
    have I5' := I5.pinned (stat fr5) (T.obj _ _ st5)
    refine wpAny_passesOwn hp (thn (hg _ s5 σ3 H5 x u _ I5' r5 (step x H5 y5)) fun _ s6 ⟨σ6, H6, I6, q6⟩ => ?_)
    refine wpAny_passesOwn hp (thn (hb _ s6 σ6 H6 _ I6 q6) fun f s7 q7 => ?_)
    have again : ∀ {σ7 : St} {H7 : Hp}, Inv X (pins ++ pinsAt fp s5.heap) σ7 H7 s7 → N σ7 H7 → ∃ m, m < n ∧ ∃ i σ' H', Inv X pins σ' H' s7 ∧ tn i s7.heap ∧ (∀ b ∈ fp, H' b = none) ∧ W i m σ' H' := fun {σ7 H7} I7 n7 => by
      obtain ⟨m', hm, w7⟩ := hN σ7 H7 n7
      refine ⟨m', hm, i + 1, σ7, H7, I7.unpinned, T.keep _ _ _ st5 fun b hb o e => (I7.pin (b, o) (List.mem_append_right _ (List.mem_append_right _ (mem_pinsAt hb e)))).1, fun b hb => ?_, w7⟩
      obtain ⟨o, e, d⟩ := T.obj _ _ st5 b hb
      exact (I7.pin (b, o) (List.mem_append_right _ (List.mem_append_right _ (mem_pinsAt hb e)))).2.1
    cases f with
    | next => obtain ⟨σ7, H7, I7, n7⟩ := q7; exact again I7 n7
    | cont => obtain ⟨σ7, H7, I7, n7⟩ := q7; exact again I7 n7
    | brk => obtain ⟨σ7, H7, I7, q7⟩ := q7; exact ⟨σ7, H7, I7.unpinned, q7⟩
    | ret v => obtain ⟨x7, σ7, H7, I7, r7, q7⟩ := q7; exact ⟨x7, σ7, H7, I7.unpinned, r7, q7⟩
end
theorem for_list {K : PySem.W.Frag} {a : Addr} {xs : List V} {g : TG} {tb : TS} {D : Ends} {σ : St} {H : Hp} (Pv : Nat → St → Hp → Prop) (h0 : Pv 0 σ H) (hl : ∀ i σ H, i ≤ xs.length → Pv i σ H → SqL K H a xs)
    (hs : ∀ i x σ H, xs[i]? = some x → Pv i σ H → g x σ H fun σ2 H2 => tb { D with nx := Pv (i + 1), ct := Pv (i + 1), bk := D.nx } σ2 H2) (hd : ∀ σ H, Pv xs.length σ H → D.nx σ H) :
    ∃ W : Nat → Nat → St → Hp → Prop, (∃ m, W 0 m σ H) ∧ ∀ i m σ H, W i m σ H →
      ((Itl K a).stop i H ∧ D.nx σ H) ∨ ((Itl K a).go i H ∧ ∃ N : St → Hp → Prop, (∀ σ' H', N σ' H' → ∃ m', m' < m ∧ W (i + 1) m' σ' H') ∧ ∀ x H', (Itl K a).yld i H x H' → g x σ H' fun σ2 H2 => tb { D with nx := N, ct := N, bk := D.nx } σ2 H2) := by
  refine ⟨fun i m σ H => m = xs.length - i ∧ i ≤ xs.length ∧ Pv i σ H, ⟨xs.length, by simp, Nat.zero_le _, h0⟩, ?_⟩
  rintro i m σ H ⟨rfl, hi, p⟩
  have q := hl i σ H hi p
  by_cases hlt : i < xs.length
  · refine .inr ⟨⟨xs, xs[i], q, by simp [hlt]⟩, Pv (i + 1), fun σ' H' p' => ⟨xs.length - (i + 1), by omega, rfl, hlt, p'⟩, fun x H' y => ?_⟩
    obtain ⟨e, y⟩ := y
    subst e
    exact hs i x σ _ (y xs q) p
  · have e : i = xs.length := by omega
    subst e
    exact .inl ⟨⟨xs, q, Nat.le_refl _⟩, hd σ H p⟩
end L2
namespace L2
open PySem PySem.Spec PyProof.Rows
abbrev R2 := V → V → Hp → VK → Prop
def OpR (X : Cx) (f : Value → Value → Sem Value) (r : R2) : Prop :=
  ∀ (pins : List (Addr × Obj)) (s : Shared) (σ : St) (H : Hp) (x y : V) (v u : Value) (Q : VK), Inv X pins σ H s → RelV x v → RelV y u → r x y H Q →
    wpAny (model X.prog X.w) X.A (f v u) (EP X pins σ Q) X.xe s
def CallR (X : Cx) (f : Value) (r : List V → Hp → VK → Prop) : Prop :=
  ∀ (pins : List (Addr × Obj)) (s : Shared) (σ : St) (H : Hp) (xs : List V) (us : List Value) (Q : VK), Inv X pins σ H s → Vals xs us → r xs H Q →
    wpAny (model X.prog X.w) X.A (call f us) (EP X pins σ Q) X.xe s
def tOp (r : R2) (ta tb : TE) : TE := fun σ H Q => ta σ H fun x H1 => tb σ H1 fun y H2 => r x y H2 Q
def rI0 (g : Int → Int → V) : R2 := fun x y H Q => ∃ i j, x = .int i ∧ y = .int j ∧ Q (g i j) H
section
variable {X : Cx} {a b c : Expr} {ta tb tc : TE} {pos : Pos}
theorem binT (ha : PE X a ta) (hb : PE X b tb) {pins : List (Addr × Obj)} {s : Shared} {σ : St} {H : Hp} {R : V → V → Hp → Prop} (I : Inv X pins σ H s)
    (h : ta σ H fun x H1 => tb σ H1 fun y H2 => R x y H2) {Q : Value → Shared → Prop} {f : Value → Value → Sem Value}
    (hf : ∀ v u s2 x y H2, Inv X pins σ H2 s2 → RelV x v → RelV y u → R x y H2 → wpAny (model X.prog X.w) X.A (f v u) Q X.xe s2) :
    wpAny (model X.prog X.w) X.A (eval a X.env) (fun v s₁ => wpAny (model X.prog X.w) X.A (eval b X.env) (fun u s₂ => wpAny (model X.prog X.w) X.A (f v u) Q X.xe s₂) X.xe s₁) X.xe s := by
  refine thn (ha pins s σ H _ I h) fun v s1 ⟨x, H1, I1, r1, q1⟩ => ?_
  refine thn (hb pins s1 σ H1 _ I1 q1) fun u s2 ⟨y, H2, I2, r2, q2⟩ => ?_
  exact hf v u s2 x y H2 I2 r1 r2 q2
theorem pe_op {op : Operator} {r : R2} (ho : OpR X (binaryOp op) r) (ha : PE X a ta) (hb : PE X b tb) : PE X (.BinOp a op b pos) (tOp r ta tb) := by
  intro pins s σ H Q I h
  exact wpAny_BinOp (binT ha hb I h fun v u s2 x y H2 I2 rx ry q => ho pins s2 σ H2 x y v u Q I2 rx ry q)
theorem opI0 {f : Value → Value → Sem Value} {g : Int → Int → Int}
    (rule : ∀ (i j : Int) (t u : Tok) (s : Shared) (Q : Value → Shared → Prop) (E : Value → Shared → Prop), Q (.int (g i j) s.toks) { s with toks := s.toks + 1 } → wpAny (model X.prog X.w) X.A (f (.int i t) (.int j u)) Q E s) :
    OpR X f (rI0 fun i j => .int (g i j)) := by
  intro pins s σ H x y v u Q I rx ry h
  obtain ⟨i, j, rfl, rfl, q⟩ := h
  obtain ⟨t, rfl⟩ := rx
  obtain ⟨t', rfl⟩ := ry
  exact rule i j t t' s _ _ ⟨.int (g i j), H, I.tok _, ⟨_, rfl⟩, q⟩
theorem opB0 {f : Value → Value → Sem Value} {g : Int → Int → Bool}
    (rule : ∀ (i j : Int) (t u : Tok) (s : Shared) (Q : Value → Shared → Prop) (E : Value → Shared → Prop), Q (.bool (g i j)) s → wpAny (model X.prog X.w) X.A (f (.int i t) (.int j u)) Q E s) :
    OpR X f (rI0 fun i j => .bl (g i j)) := by
  intro pins s σ H x y v u Q I rx ry h
  obtain ⟨i, j, rfl, rfl, q⟩ := h
  obtain ⟨t, rfl⟩ := rx
  obtain ⟨t', rfl⟩ := ry
  exact rule i j t t' s _ _ ⟨.bl (g i j), H, I, rfl, q⟩
theorem op_add : OpR X (binaryOp .Add) (rI0 fun i j => .int (i + j)) := opI0 fun _ _ _ _ _ _ _ q => add_int q
theorem op_sub : OpR X (binaryOp .Sub) (rI0 fun i j => .int (i - j)) := opI0 fun _ _ _ _ _ _ _ q => sub_int q
end
def scal : V → V → Bool
  | .non, .non => true | .non, .int _ => true | .int _, .non => true | .non, .bl _ => true | .bl _, .non => true | .non, .str _ => true | .str _, .non => true
  | .int _, .int _ => true | .bl _, .bl _ => true | .str _, .str _ => true | .byt _, .byt _ => true
  | .int _, .str _ => true | .str _, .int _ => true | .bl _, .str _ => true | .str _, .bl _ => true
  | _, _ => false
def rEq : R2 := fun x y H Q => scal x y = true ∧ Q (.bl (decide (x = y))) H
def rNe : R2 := fun x y H Q => scal x y = true ∧ Q (.bl (!decide (x = y))) H
theorem dec_int {i j : Int} : decide (V.int i = V.int j) = (i == j) := by
  rw [Bool.eq_iff_iff]
  simp
theorem dec_bl {i j : Bool} : decide (V.bl i = V.bl j) = (i == j) := by
  rw [Bool.eq_iff_iff]
  simp
theorem dec_str {i j : Str} : decide (V.str i = V.str j) = (i == j) := by
  rw [Bool.eq_iff_iff]
  simp
theorem dec_byt {i j : Array UInt8} : decide (V.byt i = V.byt j) = (i.toList == j.toList) := by
  rw [Bool.eq_iff_iff]
  cases i
  cases j
  simp
section
variable {X : Cx} {a b c : Expr} {ta tb tc : TE} {pos : Pos}
theorem fin_bl {pins : List (Addr × Obj)} {σ : St} {H : Hp} {s : Shared} {Q : VK} {k k' : Bool} (I : Inv X pins σ H s) (q : Q (.bl k) H) (e : k = k') : EP X pins σ Q (.bool k') s := by
  subst e
  exact ⟨.bl k, H, I, rfl, q⟩
theorem op_eq : OpR X (compareOp .Eq) rEq := by
  intro pins s σ H x y v u Q I rx ry h
  obtain ⟨hs, q⟩ := h
  cases x with
  | non =>
    cases rx
    cases y with
    | non => cases ry; exact PySem.EqNone.eq_none_none (fin_bl I q (by simp))
    | bl j => cases ry; exact PySem.EqNone.eq_none_bool (fin_bl I q (by simp))
    | int j => obtain ⟨t', rfl⟩ := ry; exact PySem.EqNone.eq_none_int (fin_bl I q (by simp))
    | str j => obtain ⟨t', rfl⟩ := ry; exact PySem.EqNone.eq_none_str (fin_bl I q (by simp))
    | _ => exact absurd (show false = true from hs) Bool.false_ne_true
  | bl i =>
    cases rx
    cases y with
    | non => cases ry; exact PySem.EqNone.eq_bool_none (fin_bl I q (by simp))
    | bl j => cases ry; exact eq_bool (fin_bl I q dec_bl)
    | str j => obtain ⟨t', rfl⟩ := ry; exact PySem.EqMixed.eq_bool_str (fin_bl I q (by simp))
    | _ => exact absurd (show false = true from hs) Bool.false_ne_true
  | int i =>
    obtain ⟨t, rfl⟩ := rx
    cases y with
    | non => cases ry; exact PySem.EqNone.eq_int_none (fin_bl I q (by simp))
    | int j => obtain ⟨t', rfl⟩ := ry; exact eq_int (fin_bl I q dec_int)
    | str j => obtain ⟨t', rfl⟩ := ry; exact PySem.EqMixed.eq_int_str (fin_bl I q (by simp))
    | _ => exact absurd (show false = true from hs) Bool.false_ne_true
  | str i =>
    obtain ⟨t, rfl⟩ := rx
    cases y with
    | non => cases ry; exact PySem.EqNone.eq_str_none (fin_bl I q (by simp))
    | bl j => cases ry; exact PySem.EqMixed.eq_str_bool (fin_bl I q (by simp))
    | int j => obtain ⟨t', rfl⟩ := ry; exact PySem.EqMixed.eq_str_int (fin_bl I q (by simp))
    | str j => obtain ⟨t', rfl⟩ := ry; exact eq_str (fin_bl I q dec_str)
    | _ => exact absurd (show false = true from hs) Bool.false_ne_true
  | byt i =>
    obtain ⟨t, rfl⟩ := rx
    cases y with
    | byt j => obtain ⟨t', rfl⟩ := ry; exact PySem.W.eq_bytes (fin_bl I q dec_byt)
    | _ => exact absurd (show false = true from hs) Bool.false_ne_true
  | _ => cases y <;> exact absurd (show false = true from hs) Bool.false_ne_true
theorem op_ne : OpR X (compareOp .NotEq) rNe := by
  intro pins s σ H x y v u Q I rx ry h
  obtain ⟨hs, q⟩ := h
  cases x with
  | non =>
    cases rx
    cases y with
    | non => cases ry; exact PySem.EqNone.ne_none_none (fin_bl I q (by simp))
    | bl j => cases ry; exact PySem.EqNone.ne_none_bool (fin_bl I q (by simp))
    | int j => obtain ⟨t', rfl⟩ := ry; exact PySem.EqNone.ne_none_int (fin_bl I q (by simp))
    | str j => obtain ⟨t', rfl⟩ := ry; exact PySem.EqNone.ne_none_str (fin_bl I q (by simp))
    | _ => exact absurd (show false = true from hs) Bool.false_ne_true
  | bl i =>
    cases rx
    cases y with
    | non => cases ry; exact PySem.EqNone.ne_bool_none (fin_bl I q (by simp))
    | bl j => cases ry; exact ne_bool (fin_bl I q (congrArg not dec_bl))
    | str j => obtain ⟨t', rfl⟩ := ry; exact PySem.EqMixed.ne_bool_str (fin_bl I q (by simp))
    | _ => exact absurd (show false = true from hs) Bool.false_ne_true
  | int i =>
    obtain ⟨t, rfl⟩ := rx
    cases y with
    | non => cases ry; exact PySem.EqNone.ne_int_none (fin_bl I q (by simp))
    | int j => obtain ⟨t', rfl⟩ := ry; exact ne_int (fin_bl I q (congrArg not dec_int))
    | str j => obtain ⟨t', rfl⟩ := ry; exact PySem.EqMixed.ne_int_str (fin_bl I q (by simp))
    | _ => exact absurd (show false = true from hs) Bool.false_ne_true
  | str i =>
    obtain ⟨t, rfl⟩ := rx
    cases y with
    | non => cases ry; exact PySem.EqNone.ne_str_none (fin_bl I q (by simp))
    | bl j => cases ry; exact PySem.EqMixed.ne_str_bool (fin_bl I q (by simp))
    | int j => obtain ⟨t', rfl⟩ := ry; exact PySem.EqMixed.ne_str_int (fin_bl I q (by simp))
    | str j => obtain ⟨t', rfl⟩ := ry; exact ne_str (fin_bl I q (congrArg not dec_str))
    | _ => exact absurd (show false = true from hs) Bool.false_ne_true
  | byt i =>
    obtain ⟨t, rfl⟩ := rx
    cases y with
    | byt j => obtain ⟨t', rfl⟩ := ry; exact PySem.W.ne_bytes (fin_bl I q (congrArg not dec_byt))
    | _ => exact absurd (show false = true from hs) Bool.false_ne_true
  | _ => cases y <;> exact absurd (show false = true from hs) Bool.false_ne_true
theorem op_le : OpR X (compareOp .LtE) (rI0 fun i j => .bl (decide (i ≤ j))) := opB0 fun _ _ _ _ _ _ _ q => le_int q
theorem op_gt : OpR X (compareOp .Gt) (rI0 fun i j => .bl (decide (j < i))) := opB0 fun _ _ _ _ _ _ _ q => gt_int q
theorem op_ge : OpR X (compareOp .GtE) (rI0 fun i j => .bl (decide (j ≤ i))) := opB0 fun _ _ _ _ _ _ _ q => ge_int q
theorem op_isN : OpR X (compareOp .Is) (fun x y H Q => y = .non ∧ Q (.bl (decide (x = .non))) H) := by
  intro pins s σ H x y v u Q I rx ry h
  obtain ⟨rfl, q⟩ := h
  cases ry
  refine is_none_gen (fin_bl I q ?_)
  cases x <;> first
    | (cases rx; rfl)
    | (obtain ⟨t, rfl⟩ := rx; rfl)
theorem op_notN : OpR X (compareOp .IsNot) (fun x y H Q => y = .non ∧ Q (.bl (!decide (x = .non))) H) := by
  intro pins s σ H x y v u Q I rx ry h
  obtain ⟨rfl, q⟩ := h
  cases ry
  refine isnot_none_gen (fin_bl I q ?_)
  cases x <;> first
    | (cases rx; rfl)
    | (obtain ⟨t, rfl⟩ := rx; rfl)
theorem nomark (b : Expr) {op : CmpOp} (h : op ≠ .In := by decide) (h2 : op ≠ .NotIn := by decide) : behindInMarks op b = false := by
  have e1 : (op == CmpOp.In) = false := by cases op <;> first | rfl | exact absurd rfl h
  have e2 : (op == CmpOp.NotIn) = false := by cases op <;> first | rfl | exact absurd rfl h2
  cases b <;> simp [behindInMarks, e1, e2]
theorem pe_cmpR {op : CmpOp} {r : R2} (ho : OpR X (compareOp op) r) (ha : PE X a ta) (hb : PE X b tb) (hm : behindInMarks op b = false) : PE X (.Compare a [op] [b] pos) (tOp r ta tb) := by
  intro pins s σ H Q I h
  exact wpAny_Compare1 (binT ha hb I h fun v u s2 x y H2 I2 rx ry q => ho pins s2 σ H2 x y v u Q I2 rx ry q) hm
def tTest (t : TE) : TT := fun σ H Q => t σ H fun x H' => ∃ k, x = .bl k ∧ Q k H'
theorem pt_cmpR {op : CmpOp} {r : R2} (ho : OpR X (compareOp op) r) (ha : PE X a ta) (hb : PE X b tb) (hm : behindInMarks op b = false) : PT X (.Compare a [op] [b] pos) (tTest (tOp r ta tb)) := by
  intro pins s σ H Q I h
  refine wpAny_isTrue_Compare1 (thn (ha pins s σ H _ I h) fun v s1 ⟨x, H1, I1, r1, q1⟩ => thn (hb pins s1 σ H1 _ I1 q1) fun u s2 ⟨y, H2, I2, r2, q2⟩ =>
    thn (ho pins s2 σ H2 x y v u _ I2 r1 r2 q2) fun c s3 ⟨z, H3, I3, r3, k, e, q3⟩ => ?_) hm
  subst e
  cases r3
  exact wpAny_truthy_bool ⟨H3, I3, q3⟩
def tChain (r r' : R2) (ta tb tc : TE) : TE := fun σ H Q => ta σ H fun x H1 => tb σ H1 fun y H2 => r x y H2 fun z H3 => ∃ k, z = .bl k ∧
  (if k = true then tc σ H3 fun w' H4 => r' y w' H4 Q else Q (.bl false) H3)
theorem pe_chain {op op' : CmpOp} {r r' : R2} (ho : OpR X (compareOp op) r) (ho' : OpR X (compareOp op') r') (ha : PE X a ta) (hb : PE X b tb) (hc : PE X c tc)
    (hm : lastMarks [op, op'] [b, c] = false := by with_unfolding_all rfl) : PE X (.Compare a [op, op'] [b, c] pos) (tChain r r' ta tb tc) := by
  intro pins s σ H Q I h
  refine Compare_chain (thn (ha pins s σ H _ I h) fun v s1 ⟨x, H1, I1, r1, q1⟩ => chain_link (thn (hb pins s1 σ H1 _ I1 q1) fun u s2 ⟨y, H2, I2, r2, q2⟩ =>
    thn (ho pins s2 σ H2 x y v u _ I2 r1 r2 q2) fun d s3 ⟨z, H3, I3, r3, k, e, q3⟩ => ?_)) hm
  subst e
  cases r3
  refine wpAny_truthy_bool ?_
  cases k with
  | false => exact ite_ff ⟨.bl false, H3, I3, rfl, q3⟩
  | true => exact ite_tt (chain_last (thn (hc pins s3 σ H3 _ I3 q3) fun w' s4 ⟨z', H4, I4, r4, q4⟩ => ho' pins s4 σ H4 y z' u w' Q I4 r2 r4 q4))
theorem line63 : (sizeLine : Nat) < 2 ^ 63 := by rw [sizeLine_eq]; decide
theorem vals1 {x : V} {us : List Value} (r : Vals [x] us) : ∃ u, us = [u] ∧ RelV x u := by
  cases r with
  | cons r1 r2 => cases r2; exact ⟨_, rfl, r1⟩
end
end L2
namespace L2
open PySem PySem.Spec PyProof.Rows
structure ObjM (h : Heap) (x dx C : Addr) (mA : Str → Option Value) : Prop where
  obj : h.get? x = some (PySem.W.instObj C dx)
  ns : h.Ns1 dx mA
  ne : dx ≠ x
theorem lookIn_ns {h : Heap} {dx : Addr} {mA : Str → Option Value} (n : h.Ns1 dx mA) : ∃ od, h.get? dx = some od ∧ ∀ name, PySem.W.lookIn name od = some (mA name) := by
  obtain ⟨o, es, ep, ho, hd, hk, _, hm⟩ := n
  refine ⟨o, ho, fun name => ?_⟩
  have e := hm name
  unfold nsFind findBy at e
  rw [← Array.find?_toList] at e
  unfold PySem.W.lookIn
  rw [hd]
  dsimp only
  split
  · rename_i y q
    rw [q] at e
    exact congrArg some e
  · rename_i q
    rw [q] at e
    have a : es.toList.any (·.refKey) = false := by
      rw [List.any_eq_false]
      intro y hy
      obtain ⟨z, t, hkey⟩ := hk y (Array.mem_toList_iff.mp hy)
      simp [DictEntry.refKey, hkey]
    have a' : ¬ es.toList.any (·.refKey) = true := by rw [a]; exact Bool.false_ne_true
    rw [if_neg a']
    exact congrArg some e
theorem ObjM.look {h : Heap} {x dx C : Addr} {mA : Str → Option Value} (I : ObjM h x dx C mA) : ∃ od, PySem.W.InstAt h x (PySem.W.instObj C dx) C (some od) ∧ ∀ name, PySem.W.lookIn name od = some (mA name) :=
  let ⟨od, ho, hl⟩ := lookIn_ns I.ns
  ⟨od, ⟨I.obj, rfl, rfl, ho⟩, hl⟩
section
variable {prog : Program} {w : World} {A : Around} {E : Value → Shared → Prop} {s : Shared} {K : PySem.W.Frag} {x dx C f : Addr} {mA : Str → Option Value} {name : Str} {v : Value}
theorem get_map {expr : Bool} {Q : Value → Shared → Prop} (X : K.In s.heap) (I : ObjM s.heap x dx C mA) (hg : PySem.W.plainGet K C name = true) (hh : PySem.W.hasDictIn K C = true)
    (ha : PySem.W.findIn K (.ref C) name = some none) (hv : mA name = some v) (hv' : PySem.W.handedIn v = true) (h : Q v { s with toks := s.toks + 1 }) :
    wpAny (model prog w) A (getAttr (.ref x) name expr) Q E s := by
  obtain ⟨od, J, hl⟩ := I.look
  exact PySem.W.get_value X J (PySem.W.plainGet_of hg).1 (PySem.W.findObj_own hh ha rfl (by rw [hl, hv])) hv' h
theorem get_meth {pl : Sem Bool} {Q : Value × List Value → Shared → Prop} (X : K.In s.heap) (I : ObjM s.heap x dx C mA) (hg : PySem.W.plainGet K C name = true)
    (hf : PySem.W.findIn K (.ref C) name = some (some (.ref f))) (ht : PySem.W.isFn K (.ref f) = true) (hv : mA name = none) (h : Q (.ref f, [.ref x]) s) :
    wpAny (model prog w) A (getMethod (.ref x) name pl) Q E s := by
  obtain ⟨od, J, hl⟩ := I.look
  exact PySem.W.method_fn X J (PySem.W.plainGet_of hg).1 (PySem.W.plainGet_of hg).2 hf (beq_iff_eq.mp ht) (by show (PySem.W.lookIn name od).map (·.isSome) = some false; rw [hl, hv]; rfl) h
theorem set_map {ns : List Str} {Q : Unit → Shared → Prop} (X : K.In s.heap) (I : ObjM s.heap x dx C mA)
    (hs : PySem.W.findIn K (.ref C) "__setattr__" = some (some (.builtin "object.__setattr__"))) (hp : PySem.W.plainOver K C = true) (ht : PySem.W.takerIn K C name = some none) (hh : PySem.W.hasDictIn K C = true)
    (hw : PySem.Within mA ns) (hsz : ns.length ≤ sizeLine)
    (h : ∀ h', ObjM h' x dx C (fun y => if y = name then some v else mA y) → Heap.SameBut dx s.heap h' → Q () { s with heap := h', toks := s.toks + 2 }) :
    wpAny (model prog w) A (setAttr (.ref x) name v) Q E s := by
  obtain ⟨od, J, hl⟩ := I.look
  refine PySem.W.set_plain X J hs (PySem.W.osa_open (s := { s with toks := s.toks + 1 }) (r := none) X J hp ht fun b => ?_)
  obtain ⟨cd, hc, hd'⟩ := PySem.W.any_some hh
  have hx : s.heap.get? x = some ⟨.ref C, some dx, .plain, #[]⟩ := I.obj
  refine wpAny_bind (wpAny_pure (wpAny_bind (wpAny_bind (wpAny_loadPart hx (wpAny_bind (PySem.W.Looks.here (s := { s with toks := s.toks + 1 }) (PySem.W.looks_clsIn X hc) ?_))))))
  rw [hd']
  refine wpAny_pure (a := some dx) (wpAny_bind (wpAny_pure (wpAny_bind ?_)))
  refine wpAny_nsSet1 (s := { s with toks := s.toks + 1 }) I.ns fun h' hn2 hs2 => ?_
  obtain ⟨oD, esD, epD, hoD, hdD, hcD⟩ := hn2.count (PySem.Within.cons name v hw)
  refine wpAny_bind (wpAny_lookBehind hoD (by rw [hdD]; exact pastItsLine_dict (Nat.le_trans hcD (by rw [List.length_cons]; omega))) ?_)
  exact wpAny_pure (h _ ⟨(hs2.2 _ (Ne.symm I.ne)).trans I.obj, hn2, I.ne⟩ hs2)
theorem make_map {R : Result → Shared → Prop} {vs : List Value} {kw : List (Str × Value)} (X : K.In s.heap) (hm : PySem.W.makesIn K C = true)
    (hi : PySem.W.findIn K (.ref C) "__init__" = some (some (.ref f))) (hf : PySem.W.typeIn K (.ref f) = some (.type "function"))
    (h : codeAny (model prog w) (A.under (.builtin "type.__call__" ⟨.ref C :: vs, kw⟩)) (.call (.ref f) ⟨.ref (s.heap.objs.size + 1) :: vs, kw⟩) (PySem.W.InitBack (s.heap.objs.size + 1) R)
      { s with heap := (s.heap.push PySem.W.emptyDict).push (PySem.W.instObj C s.heap.objs.size) }) :
    codeAny (model prog w) A (.call (.ref C) ⟨vs, kw⟩) R s := by
  obtain ⟨hh, g, d, t, os⟩ := s
  exact PySem.W.make_core (PySem.W.makes_of X hm) (PySem.W.looks_findIn X hi) (fun self => PySem.W.bind_fn X self hf) (.inl rfl) h
end
def putF (f : Str) (v : V) : List (Str × V) → List (Str × V)
  | [] => [(f, v)]
  | (g, x) :: r => if g = f then (g, v) :: r else (g, x) :: putF f v r
theorem lookup_putF (f g : Str) (v : V) : ∀ fs : List (Str × V), (putF f v fs).lookup g = if g = f then some v else fs.lookup g
  | [] => by
    show List.lookup g [(f, v)] = _
    by_cases h : g = f
    · have hb : (g == f) = true := beq_iff_eq.mpr h
      simp only [List.lookup, hb, if_pos h]
    · have hb : (g == f) = false := beq_eq_false_iff_ne.mpr h
      simp only [List.lookup, hb, if_neg h]
  | (k, x) :: r => by
    have ih := lookup_putF f g v r
    rw [show putF f v ((k, x) :: r) = (if k = f then (k, v) :: r else (k, x) :: putF f v r) from rfl]
    by_cases hk : k = f
    · rw [if_pos hk]
      by_cases h : g = k
      · have hb : (g == k) = true := beq_iff_eq.mpr h
        simp only [List.lookup, hb, if_pos (h.trans hk)]
      · have hb : (g == k) = false := beq_eq_false_iff_ne.mpr h
        simp only [List.lookup, hb, if_neg (fun e : g = f => h (e.trans hk.symm))]
    · rw [if_neg hk]
      by_cases h : g = k
      · have hb : (g == k) = true := beq_iff_eq.mpr h
        simp only [List.lookup, hb, if_neg (fun e : g = f => hk (h.symm.trans e))]
      · have hb : (g == k) = false := beq_eq_false_iff_ne.mpr h
        simp only [List.lookup, hb]
        exact ih
theorem keys_putF (f : Str) (v : V) : ∀ fs : List (Str × V), f ∈ (putF f v fs).map (·.1) ∧ ∀ g, g ∈ fs.map (·.1) → g ∈ (putF f v fs).map (·.1)
  | [] => ⟨by simp [putF], fun g h => by simp at h⟩
  | (k, x) :: r => by
    obtain ⟨i1, i2⟩ := keys_putF f v r
    rw [show putF f v ((k, x) :: r) = (if k = f then (k, v) :: r else (k, x) :: putF f v r) from rfl]
    by_cases hk : k = f
    · rw [if_pos hk]
      subst hk
      exact ⟨by simp, fun g h => by simpa using h⟩
    · rw [if_neg hk]
      refine ⟨?_, fun g h => ?_⟩
      · rw [List.map_cons]
        exact List.mem_cons_of_mem _ i1
      · rw [List.map_cons] at h ⊢
        rcases List.mem_cons.mp h with e | e
        · exact List.mem_cons.mpr (.inl e)
        · exact List.mem_cons_of_mem _ (i2 g e)
theorem length_putF (f : Str) (v : V) : ∀ fs : List (Str × V), (putF f v fs).length ≤ fs.length + 1
  | [] => by simp [putF]
  | (k, x) :: r => by
    have ih := length_putF f v r
    rw [show putF f v ((k, x) :: r) = (if k = f then (k, v) :: r else (k, x) :: putF f v r) from rfl]
    by_cases hk : k = f
    · rw [if_pos hk, List.length_cons, List.length_cons]; omega
    · rw [if_neg hk, List.length_cons, List.length_cons]; omega
theorem RelO.some_of {v : V} {o : Option Value} (r : RelO (some v) o) : ∃ u, o = some u ∧ RelV v u := by
  cases o with
  | none => exact (show False from r).elim
  | some u => exact ⟨u, rfl, r⟩
theorem RelO.none_of {o : Option Value} (r : RelO none o) : o = none := by
  cases o with
  | none => rfl
  | some u => exact (show False from r).elim
theorem handed_of {v : V} {u : Value} (r : RelV v u) : PySem.W.handedIn u = true := by
  cases v with
  | non => cases (show u = Value.none from r); rfl
  | bl b => cases (show u = Value.bool b from r); rfl
  | int i => obtain ⟨t, e⟩ := (show ∃ t, u = Value.int i t from r); cases e; rfl
  | str x => obtain ⟨t, e⟩ := (show ∃ t, u = Value.str x t from r); cases e; rfl
  | byt b => obtain ⟨t, e⟩ := (show ∃ t, u = Value.bytes b t from r); cases e; rfl
  | flt b => obtain ⟨t, e⟩ := (show ∃ t, u = Value.float b t from r); cases e; rfl
  | ref a => cases (show u = Value.ref a from r); rfl
  | ty n => cases (show u = Value.type n from r); rfl
section
variable {P : Program} {w : World} {H H' : Hp} {h h' : Heap} {a C dx : Addr} {fs fs' : List (Str × V)}
theorem ins_get (hok : HOk P w H h) (e : H a = some (.ins C dx fs)) : ∃ mA, ObjM h a dx C mA ∧ (∀ f, RelO (fs.lookup f) (mA f)) ∧ PySem.Within mA (fs.map (·.1)) ∧ fs.length ≤ 1000 ∧ H dx = some (.own a) := by
  obtain ⟨d, z, ne, ob, mA, n, r, q⟩ := (show ObjOk P w H h a (.ins C dx fs) from hok a _ e)
  exact ⟨mA, ⟨ob, n, ne⟩, r, q, z, d⟩
end
structure Cls (K : PySem.W.Frag) (C : Addr) : Prop where
  pg : PySem.W.plainGet K C Str.empty = true
  hd : PySem.W.hasDictIn K C = true
  po : PySem.W.plainOver K C = true
  sa : PySem.W.findIn K (.ref C) "__setattr__" = some (some (.builtin "object.__setattr__"))
theorem Cls.get {K : PySem.W.Frag} {C : Addr} (c : Cls K C) (f : Str) : PySem.W.plainGet K C f = true := c.pg
def NoAttr (K : PySem.W.Frag) (C : Addr) (f : Str) : Prop := PySem.W.findIn K (.ref C) f = some none
theorem NoAttr.taker {K : PySem.W.Frag} {C : Addr} {f : Str} (n : NoAttr K C f) : PySem.W.takerIn K C f = some none := by
  unfold PySem.W.takerIn
  rw [show PySem.W.findIn K (.ref C) f = some none from n]
  rfl
structure Meth (K : PySem.W.Frag) (C : Addr) (m : Str) (f : Addr) : Prop where
  at_ : PySem.W.findIn K (.ref C) m = some (some (.ref f))
  fn : PySem.W.isFn K (.ref f) = true
  kp : PySem.W.keepIn K (.ref f) = true
section
variable {X : Cx} {pins : List (Addr × Obj)} {σ : St} {H : Hp} {s : Shared} {a C dx : Addr} {fs : List (Str × V)} {f : Str} {v : V} {A : Around} {E : Value → Shared → Prop}
theorem getattr_ok {b : Bool} {Q : Value → Shared → Prop} (I : Inv X pins σ H s) (e : H a = some (.ins C dx fs)) (c : Cls X.K C) (n : NoAttr X.K C f) (l : fs.lookup f = some v)
    (h : ∀ u s', Inv X pins σ H s' → RelV v u → Q u s') : wpAny (model X.prog X.w) A (getAttr (.ref a) f b) Q E s := by
  obtain ⟨mA, O, r, _, _, _⟩ := ins_get I.hok e
  obtain ⟨u, hu, ru⟩ := RelO.some_of (v := v) (o := mA f) (by rw [← l]; exact r f)
  exact get_map I.kIn O (c.get f) c.hd n hu (handed_of ru) (h u _ (I.tok _) ru)
theorem getmeth_ok {m : Str} {g : Addr} {pl : Sem Bool} {Q : Value × List Value → Shared → Prop} (I : Inv X pins σ H s) (e : H a = some (.ins C dx fs)) (c : Cls X.K C) (k : Meth X.K C m g) (l : fs.lookup m = none)
    (h : Q (.ref g, [.ref a]) s) : wpAny (model X.prog X.w) A (getMethod (.ref a) m pl) Q E s := by
  obtain ⟨mA, O, r, _, _, _⟩ := ins_get I.hok e
  have hn : mA m = none := RelO.none_of (by rw [← l]; exact r m)
  exact get_meth I.kIn O (c.get m) k.at_ k.fn hn h
theorem setattr_ok {y : V} {u : Value} {Q : Unit → Shared → Prop} (I : Inv X pins σ H s) (e : H a = some (.ins C dx fs)) (c : Cls X.K C) (n : NoAttr X.K C f) (hl : fs.length < 1000) (ry : RelV y u)
    (h : ∀ s', Inv X pins σ (upd H a (.ins C dx (putF f y fs))) s' → Q () s') : wpAny (model X.prog X.w) A (setAttr (.ref a) f u) Q E s := by
  obtain ⟨mA, O, r, wi, _, ho⟩ := ins_get I.hok e
  have hz : (fs.map (·.1)).length ≤ sizeLine := by rw [List.length_map, sizeLine_eq]; omega
  refine set_map I.kIn O c.sa c.po n.taker c.hd wi hz fun h' O' sb => h _ ?_
  have hd : ∃ o, h'.get? dx = some o := let ⟨o, _, _, e', _⟩ := O'.ns; ⟨o, e'⟩
  refine I.write (x := a) (e := dx) (by rw [e]; exact True.intro) (.inr ho) (fun b q hb z => (sb.2 b hb).trans z) hd ?_
  refine ⟨by rw [upd_ne O.ne]; exact ho, ?_, O.ne, O'.obj, _, O'.ns, fun g => ?_, fun g hg => ?_⟩
  · have := length_putF f y fs; omega
  · show RelO ((putF f y fs).lookup g) (if g = f then some u else mA g)
    rw [lookup_putF]
    by_cases q : g = f
    · rw [if_pos q, if_pos q]; exact ry
    · rw [if_neg q, if_neg q]; exact r g
  · by_cases q : g = f
    · rw [q]; exact (keys_putF f y fs).1
    · refine (keys_putF f y fs).2 g (wi g fun z => hg ?_)
      show (if g = f then some u else mA g) = none
      rw [if_neg q]; exact z
theorem Inv.made (I : Inv X pins σ H s) : Inv X pins σ (upd (upd H s.heap.objs.size (.own (s.heap.objs.size + 1))) (s.heap.objs.size + 1) (.ins C s.heap.objs.size []))
    { s with heap := (s.heap.push PySem.W.emptyDict).push (PySem.W.instObj C s.heap.objs.size) } := by
  have e1 : (s.heap.push PySem.W.emptyDict).get? s.heap.objs.size = some PySem.W.emptyDict := Heap.get?_push_size s.heap rfl
  have e2 : ((s.heap.push PySem.W.emptyDict).push (PySem.W.instObj C s.heap.objs.size)).get? (s.heap.objs.size + 1) = some (PySem.W.instObj C s.heap.objs.size) := by
    have := Heap.get?_push_size (s.heap.push PySem.W.emptyDict) (o := PySem.W.instObj C s.heap.objs.size) rfl
    rwa [Heap.size_push] at this
  have e3 : (s.heap.push PySem.W.emptyDict).Ns s.heap.objs.size (fun _ => none) := ⟨PySem.W.emptyDict, #[], _, e1, rfl, (fun e he => absurd he (by simp)), fun _ => rfl⟩
  have I1 := I.laid (a := s.heap.objs.size) (o := .own (s.heap.objs.size + 1)) (h' := s.heap.push PySem.W.emptyDict) (t' := s.toks) (fun b u q => Heap.get?_push_of_some _ q) (Nat.le_refl _) ⟨_, e1⟩
  refine I1.laid (a := s.heap.objs.size + 1) (o := .ins C s.heap.objs.size []) (t' := s.toks) (fun b u q => Heap.get?_push_of_some _ q) (Nat.le_of_eq (Heap.size_push _ _)) ?_
  have ne : s.heap.objs.size ≠ s.heap.objs.size + 1 := Nat.ne_of_lt (Nat.lt_succ_self _)
  refine ⟨by rw [upd_ne ne, upd_same], Nat.zero_le _, ne, e2, fun _ => none, (Heap.Ns1.of_empty e3).at fun o q => Heap.get?_push_of_some _ q, fun _ => True.intro, fun y hy => absurd rfl hy⟩
theorem attr_of {prog : Program} {w : World} {env : Env} {e : Expr} {f : Str} {pos : Pos} {s : Shared} {Q : Value → Shared → Prop} (hb : attributeBase e f env (eval e env) = eval e env)
    (h : wpAny (model prog w) A (eval e env) (fun o s₁ => wpAny (model prog w) A (getAttr o f true) Q E s₁) E s) : wpAny (model prog w) A (eval (.Attribute e f pos) env) Q E s :=
  Attribute_any_ h (by rw [arm_eval_Attribute, hb])
end
def tFld (K : PySem.W.Frag) (ta : TE) (f : Str) : TE := fun σ H Q => ta σ H fun x H1 => ∃ a C dx fs v, x = .ref a ∧ H1 a = some (.ins C dx fs) ∧ Cls K C ∧ NoAttr K C f ∧ fs.lookup f = some v ∧ Q v H1
def sFld (K : PySem.W.Frag) (ta tv : TE) (f : Str) : TS := fun D σ H => tv σ H fun y H1 => ta σ H1 fun x H2 => ∃ a C dx fs, x = .ref a ∧ H2 a = some (.ins C dx fs) ∧ Cls K C ∧ NoAttr K C f ∧ fs.length < 1000 ∧
  D.nx σ (upd H2 a (.ins C dx (putF f y fs)))
section
variable {X : Cx} {o e value : Expr} {f : Str} {pos pos' tpos : Pos} {ta tv : TE}
theorem pe_fld (he : PE X e ta) (hb : attributeBase e f X.env (eval e X.env) = eval e X.env) : PE X (.Attribute e f pos) (tFld X.K ta f) := by
  intro pins s σ H Q I h
  refine attr_of hb (thn (he pins s σ H _ I h) fun u s1 ⟨x, H1, I1, rx, a, C, dx, fs, v, ex, ea, c, n, l, q⟩ => ?_)
  subst ex
  obtain rfl : u = Value.ref a := rx
  exact getattr_ok I1 ea c n l fun u' s2 I2 ru => ⟨v, H1, I2, ru, q⟩
theorem ps_fld (ha : PE X o ta) (hv : PE X value tv) (hs : swapsWith value (some (.Attribute o f pos')) pos.line X.env = pure false) : PS X (.Assign [.Attribute o f pos'] value pos) (sFld X.K ta tv f) := by
  intro pins s σ H D I h
  refine plainObj_wpAny_Assign_Attribute (thn (hv pins s σ H _ I h) fun u s1 ⟨y, H1, I1, ry, q⟩ => thn (ha pins s1 σ H1 _ I1 q) fun ov s2 ⟨x, H2, I2, rx, a, C, dx, fs, ex, ea, c, n, l, q2⟩ => ?_) hs
  subst ex
  obtain rfl : ov = Value.ref a := rx
  exact setattr_ok I2 ea c n l ry fun s3 I3 => ⟨σ, _, I3, q2⟩
theorem methcall_of {pl : Sem Bool} {m : Str} {apos : Pos} {args : List Expr} {pins : List (Addr × Obj)} {s : Shared} {σ : St} {H : Hp} {Q : Value → Shared → Prop} {te : TE} (he : PE X e te) (I : Inv X pins σ H s)
    (h : te σ H fun x H1 => ∃ a C dx fs g, x = .ref a ∧ H1 a = some (.ins C dx fs) ∧ Cls X.K C ∧ Meth X.K C m g ∧ fs.lookup m = none ∧
      ∀ s1, Inv X pins σ H1 s1 → wpAny (model X.prog X.w) X.A (callWith pos (.ref g) [.ref a] (backTo pos (starEach args X.env)) (backToKw pos (keywordEach [] X.env))) Q X.xe s1)
    (ht : eval (.Call (.Attribute e m apos) args [] pos) X.env = (do
      let ov ← eval e X.env
      standAt apos.atName
      let (f, first) ← holding [ov] (getMethod ov m pl)
      callWith pos f first (backTo pos (starEach args X.env)) (backToKw pos (keywordEach [] X.env)))) :
    wpAny (model X.prog X.w) X.A (eval (.Call (.Attribute e m apos) args [] pos) X.env) Q X.xe s := by
  refine PySem.W.methodCall_KW (pl := pl) (thn (he pins s σ H _ I h) fun u s1 ⟨x, H1, I1, rx, a, C, dx, fs, g, ex, ea, c, k, l, q⟩ => ?_) ht
  subst ex
  obtain rfl : u = Value.ref a := rx
  exact getmeth_ok I1 ea c k l (q s1 I1)
end
end L2
namespace L2
open PySem PySem.Spec PyProof.Rows
structure Room (k : Nat) (A : Around) : Prop where
  hd : A.handled = none
  dp : A.depth + 3 * k + 5 < recursionLimit
  un : A.units + 16 * k + 200 < cLine
theorem Room.mono {j k : Nat} {A : Around} (r : Room k A) (h : j ≤ k) : Room j A := ⟨r.hd, by have := r.dp; omega, by have := r.un; omega⟩
theorem Room.deeper {k : Nat} {A : Around} (r : Room (k + 1) A) (env : Env) : Room k (A.deeper env) :=
  ⟨r.hd, by have := r.dp; show A.depth + 1 + 3 * k + 5 < _; omega, by have := r.un; show A.units + 3 + 16 * k + 200 < _; omega⟩
theorem Room.in1 {k : Nat} {A : Around} (r : Room (k + 1) A) : Room k A.in1 :=
  ⟨r.hd, by have := r.dp; show A.depth + 3 * k + 5 < _; omega, by have := r.un; show A.units + 1 + 16 * k + 200 < _; omega⟩
theorem make_depth {A : Around} {C : Addr} {us : List Value} {kw : List (Str × Value)} : (A.under (.builtin "type.__call__" ⟨.ref C :: us, kw⟩)).depth = A.depth + 1 := by
  first | rfl | simp [Around.under, Code.weight, Code.isCreation, Code.isGuard, Code.isCaller, Code.frames, Code.isFrame, guardIds]
theorem make_units {A : Around} {C : Addr} {us : List Value} {kw : List (Str × Value)} : (A.under (.builtin "type.__call__" ⟨.ref C :: us, kw⟩)).units = A.units + 1 := by
  first | rfl | simp [Around.under, Code.cUnits, Code.frames, Code.isFrame]
theorem Room.make {k : Nat} {A : Around} (r : Room (k + 1) A) (C : Addr) (us : List Value) (kw : List (Str × Value)) : Room k (A.under (.builtin "type.__call__" ⟨.ref C :: us, kw⟩)) :=
  ⟨r.hd, by have := r.dp; rw [make_depth]; omega, by have := r.un; rw [make_units]; omega⟩
theorem Room.depth {k : Nat} {A : Around} (r : Room k A) : A.depth < recursionLimit := by have := r.dp; omega
theorem Room.units {k : Nat} {A : Around} (r : Room k A) : A.units + 64 < cLine := by have := r.un; omega
def tNil : TA := fun _ H Q => Q [] H
def tCons (ta : TE) (tr : TA) : TA := fun σ H Q => ta σ H fun x H1 => tr σ H1 fun xs H2 => Q (x :: xs) H2
section
variable {X : Cx} {e : Expr} {es : List Expr} {te : TE} {t : TA} {pos : Pos}
theorem pa_nil : PA X [] tNil := fun _ _ _ _ H Q I h => Calls.spliced_nil ⟨[], H, I, .nil, h⟩
theorem pa_cons (ha : PE X e te) (hr : PA X es t) (hs : starEach (e :: es) X.env = (false, eval e X.env) :: starEach es X.env := by rfl) : PA X (e :: es) (tCons te t) := by
  intro pos pins s σ H Q I h
  rw [hs]
  show wpAny _ _ (spliced ((false, eval e X.env) :: backTo pos (starEach es X.env))) _ _ s
  refine Calls.spliced_cons (thn (ha pins s σ H _ I h) fun u s1 ⟨x, H1, I1, r1, q1⟩ => ?_)
  exact thn (hr pos pins s1 σ H1 _ I1 q1) fun us s2 ⟨xs, H2, I2, r2, q2⟩ => ⟨x :: xs, H2, I2, .cons r1 r2, q2⟩
def tTup (t : TA) : TE := fun σ H Q => t σ H fun xs H1 => xs.length ≤ sizeLine ∧ ∀ p, H1 p = none → Q (.ref p) (upd H1 p (.tup xs))
def tLst (t : TA) : TE := fun σ H Q => t σ H fun xs H1 => xs.length ≤ sizeLine ∧ ∀ p, H1 p = none → Q (.ref p) (upd H1 p (.lst xs))
theorem pe_tup {x1} (h : PA X es t) : PE X (.Tuple es x1 pos) (tTup t) := by
  intro pins s σ H Q I hq
  refine wpAny_Tuple_spliced (thn (h pos pins s σ H _ I hq) fun us s1 ⟨xs, H1, I1, r, z, q⟩ => ⟨by rw [← r.length]; exact z, ?_⟩)
  have hf : H1 s1.heap.objs.size = none := I1.hok.fresh (Nat.le_refl _)
  refine ⟨.ref s1.heap.objs.size, upd H1 s1.heap.objs.size (.tup xs), I1.laid (t' := s1.toks) (fun b u e => Heap.get?_push_of_some _ e) (Nat.le_refl _) ?_, rfl, q _ hf⟩
  exact ⟨z, us, r, ⟨_, Heap.get?_push_size _ rfl, rfl, _, rfl⟩⟩
theorem pe_lst (h : PA X es t) : PE X (.List es pos) (tLst t) := by
  intro pins s σ H Q I hq
  refine wpAny_List_spliced (thn (h pos pins s σ H _ I hq) fun us s1 ⟨xs, H1, I1, r, z, q⟩ => ⟨by rw [← r.length]; exact z, ?_⟩)
  have hf : H1 s1.heap.objs.size = none := I1.hok.fresh (Nat.le_refl _)
  refine ⟨.ref s1.heap.objs.size, upd H1 s1.heap.objs.size (.lst xs), I1.laid (t' := s1.toks) (fun b u e => Heap.get?_push_of_some _ e) (Nat.le_refl _) ?_, rfl, q _ hf⟩
  exact ⟨z, us, 0, r, Heap.get?_push_size _ rfl⟩
end
abbrev Sp := List V → Hp → VK → XK → Prop
abbrev CXT := List Env → Hp → Shared → XK → Value → Shared → Prop
structure Env0 (P : Program) (w : World) (K : PySem.W.Frag) (mg : Str → Option Value) (base : Heap) (A : Around) (outer : List Env) (s : Shared) (H : Hp) : Prop where
  frames : A.frames = some outer
  mod : Mod K mg base
  bs : ∀ b o, base.get? b = some o → s.heap.get? b = some o ∧ H b = none
  bsz : base.objs.size ≤ s.heap.objs.size
  funs : s.heap.FunFrames base outer
  frf : ∀ b ∈ frs outer, H b = none
  hok : HOk P w H s.heap
  bare : AllBare s.gens
def CE (outer : List Env) (P : Program) (w : World) (H : Hp) (s : Shared) (Q : VK) (u : Value) (s' : Shared) : Prop :=
  ∃ v H', s'.os = s.os ∧ AllBare s'.gens ∧ Un (frs outer) [] H H' s.heap s'.heap ∧ HOk P w H' s'.heap ∧ RelV v u ∧ Q v H'
def CR (CX : CXT) (outer : List Env) (P : Program) (w : World) (H : Hp) (s : Shared) (Q : VK) (E : XK) (r : Result) (s' : Shared) : Prop :=
  match r with
  | .ok (.ret u) => CE outer P w H s Q u s'
  | .ok _ => False
  | .error e => CX outer H s E e s'
structure FnOk (P : Program) (w : World) (K : PySem.W.Frag) (mg : Str → Option Value) (base : Heap) (CX : CXT) (k : Nat) (f : Addr) (fd : FuncData) (ps : List Str) (sp : Sp) : Prop where
  len : ∀ vs H Q E, sp vs H Q E → vs.length = ps.length
  run : ∀ (A : Around) (outer : List Env) (s : Shared) (H : Hp) (args : Args) (us : List Value) (vs : List V) (Q : VK) (E : XK), Room k A → Env0 P w K mg base A outer s H → BindsTo s fd args (ps.zip us) → Vals vs us → sp vs H Q E →
    codeAny (model P w) A (.call (.ref f) args) (CR CX outer P w H s Q E) s
theorem FnOk.imp {P : Program} {w : World} {K : PySem.W.Frag} {mg : Str → Option Value} {base : Heap} {CX : CXT} {k : Nat} {f : Addr} {fd : FuncData} {ps : List Str} {sp sp' : Sp} (F : FnOk P w K mg base CX k f fd ps sp)
    (h : ∀ vs H Q E, sp' vs H Q E → sp vs H Q E) : FnOk P w K mg base CX k f fd ps sp' :=
  ⟨fun vs H Q E q => F.len vs H Q E (h _ _ _ _ q), fun A outer s H args us vs Q E hr he hb hv hs => F.run A outer s H args us vs Q E hr he hb hv (h _ _ _ _ hs)⟩
theorem Env0.make {P : Program} {w : World} {K : PySem.W.Frag} {mg : Str → Option Value} {base : Heap} {A : Around} {outer : List Env} {s : Shared} {H : Hp} (e : Env0 P w K mg base A outer s H) (C : Addr) (us : List Value) (kw : List (Str × Value)) :
    Env0 P w K mg base (A.under (.builtin "type.__call__" ⟨.ref C :: us, kw⟩)) outer s H := ⟨by first | exact e.frames | (simpa [Around.under, Code.envs, Code.isFrame, pushEnvs] using e.frames), e.mod, e.bs, e.bsz, e.funs, e.frf, e.hok, e.bare⟩
section
variable {X : Cx} {pins : List (Addr × Obj)} {σ : St} {H : Hp} {s s' : Shared}
theorem Inv.env0 (I : Inv X pins σ H s) : Env0 X.prog X.w X.K X.mg X.base X.A X.stack s H :=
  ⟨I.ok.frames, I.ok.mod, I.bs, Nat.le_trans I.ok.bsz I.sz, I.stack, I.stkFree, I.hok, I.bare⟩
theorem Inv.after {Q : VK} {u : Value} (I : Inv X pins σ H s) (h : CE X.stack X.prog X.w H s Q u s') : EP X pins σ Q u s' := by
  obtain ⟨v, H', os, bare, un, hok, r, q⟩ := h
  obtain ⟨hh, g, d, t, os'⟩ := s'
  obtain rfl : os' = s.os := os
  exact ⟨v, H', I.call (h' := hh) (g' := g) (d' := d) (t' := t) (ch := []) un hok bare (fun b z => absurd z (by simp)), r, q⟩
end
def tCall (sp : Sp) (dvs : List V) (E : XK) (t : TA) : TE := fun σ H Q => t σ H fun vs H1 => sp (vs ++ dvs) H1 Q E
def tMeth (C : Addr) (m : Str) (sp : Sp) (dvs : List V) (E : XK) (ta : TE) (t : TA) : TE := fun σ H Q => ta σ H fun x H1 => ∃ a dx fs, x = .ref a ∧ H1 a = some (.ins C dx fs) ∧ fs.lookup m = none ∧
  t σ H1 fun vs H2 => sp (x :: (vs ++ dvs)) H2 Q E
def tMake (C : Addr) (sp : Sp) (dvs : List V) (E : XK) (t : TA) : TE := fun σ H Q => t σ H fun vs H1 => ∀ x dx, H1 x = none → H1 dx = none → dx ≠ x →
  sp (.ref x :: (vs ++ dvs)) (upd (upd H1 dx (.own x)) x (.ins C dx [])) (fun v H2 => v = .non ∧ Q (.ref x) H2) E
def Binds (K : PySem.W.Frag) (fd : FuncData) (ps : List Str) (ds : List Value) : Prop :=
  ∀ (s : Shared) (us : List Value), K.In s.heap → (us ++ ds).length = ps.length → BindsTo s fd ⟨us, []⟩ (ps.zip (us ++ ds))
theorem Binds.all {K : PySem.W.Frag} {fd : FuncData} {ps : List Str} (h : ∀ us : List Value, us.length = ps.length → bindArgs fd ⟨us, []⟩ = pure (ps.zip us)) : Binds K fd ps [] := fun s us _ hl => by
  rw [List.append_nil] at hl ⊢
  exact .of_eq (h us hl)
def Passes (CX : CXT) (X : Cx) (E : XK) : Prop := ∀ (pins : List (Addr × Obj)) (σ : St) (H : Hp) (s : Shared) (e : Value) (s' : Shared), Inv X pins σ H s → CX X.stack H s E e s' → X.xe e s'
section
variable {X : Cx} {CX : CXT} {k : Nat} {f C : Addr} {fd : FuncData} {ps : List Str} {sp : Sp} {dvs : List V} {ds : List Value} {E : XK} {x m : Str} {p pos apos : Pos} {e o : Expr} {es : List Expr} {ta : TE} {t : TA}
theorem run_fn {pins : List (Addr × Obj)} {σ : St} {H : Hp} {s : Shared} {Q : VK} {us : List Value} {vs : List V} (F : FnOk X.prog X.w X.K X.mg X.base CX k f fd ps sp) (hr : Room k X.A) (hb : Binds X.K fd ps ds) (hd : Vals dvs ds) (hx : Passes CX X E)
    (I : Inv X pins σ H s) (r : Vals vs us) (h : sp (vs ++ dvs) H Q E) : wpAny (model X.prog X.w) X.A (call (.ref f) us) (EP X pins σ Q) X.xe s := by
  have r2 : Vals (vs ++ dvs) (us ++ ds) := r.append hd
  have hl : (us ++ ds).length = ps.length := by rw [← r2.length]; exact F.len _ _ _ _ h
  refine wpAny_call (codeAny_mono (F.run X.A X.stack s H ⟨us, []⟩ (us ++ ds) (vs ++ dvs) Q E hr I.env0 (hb s us I.kIn hl) r2 h) fun r s' hq => ?_)
  cases r with
  | error e => exact hx pins σ H s e s' I hq
  | ok fl =>
    cases fl with
    | ret u => exact I.after hq
    | next => exact False.elim hq
    | brk => exact False.elim hq
    | cont => exact False.elim hq
theorem pe_call (F : FnOk X.prog X.w X.K X.mg X.base CX k f fd ps sp) (hr : Room k X.A) (hg : Gl X x) (hm : X.mg x = some (.ref f)) (hk : PySem.W.keepIn X.K (.ref f) = true) (hb : Binds X.K fd ps ds) (hd : Vals dvs ds) (hx : Passes CX X E)
    (ha : PA X (e :: es) t) (hdb : (x == ("__debug__" : Str)) = false := by decide) (he : starEach (e :: es) X.env = (false, eval e X.env) :: starEach es X.env := by rfl) (hpl : (backTo pos (starEach es X.env)).any (·.1) = false := by rfl) :
    PE X (.Call (.Name x p) (e :: es) [] pos) (tCall sp dvs E t) := by
  intro pins s σ H Q I h
  refine wpAny_Call_Name_kw (ld_glob I hg hm ?_ hdb)
  refine PySem.W.callWith_K (h₀ := X.base) I.ok.mod.kin hk (thn (ha pos pins s σ H _ I h) fun us s1 ⟨vs, H1, I1, r, q⟩ => ⟨I1.kIn, ?_⟩) he hpl
  exact run_fn F hr hb hd hx I1 r q
theorem pe_meth {pl : Sem Bool} (he : PE X o ta) (c : Cls X.K C) (hm : Meth X.K C m f) (F : FnOk X.prog X.w X.K X.mg X.base CX k f fd ps sp) (hr : Room k X.A) (hb : Binds X.K fd ps ds) (hd : Vals dvs ds) (hx : Passes CX X E) (ha : PA X (e :: es) t)
    (hst : starEach (e :: es) X.env = (false, eval e X.env) :: starEach es X.env := by rfl) (hpl : (backTo pos (starEach es X.env)).any (·.1) = false := by rfl)
    (ht : eval (.Call (.Attribute o m apos) (e :: es) [] pos) X.env = (do
      let ov ← eval o X.env
      standAt apos.atName
      let (f, first) ← holding [ov] (getMethod ov m pl)
      callWith pos f first (backTo pos (starEach (e :: es) X.env)) (backToKw pos (keywordEach [] X.env))) := by rfl) :
    PE X (.Call (.Attribute o m apos) (e :: es) [] pos) (tMeth C m sp dvs E ta t) := by
  intro pins s σ H Q I h
  refine PySem.W.methodCall_KW (pl := pl) (thn (he pins s σ H _ I h) fun u s1 ⟨x, H1, I1, rx, a, dx, fs, ex, ea, l, q⟩ => ?_) ht
  subst ex
  obtain rfl : u = Value.ref a := rx
  refine getmeth_ok I1 ea c hm l ?_
  refine PySem.W.callWith_K (first := [.ref a]) (h₀ := X.base) I.ok.mod.kin hm.kp (thn (ha pos pins s1 σ H1 _ I1 q) fun us s2 ⟨vs, H2, I2, r, q2⟩ => ⟨I2.kIn, ?_⟩) hst hpl
  exact run_fn (us := .ref a :: us) (vs := .ref a :: vs) F hr hb hd hx I2 (.cons rfl r) q2
theorem pe_meth0 {pl : Sem Bool} (he : PE X o ta) (c : Cls X.K C) (hm : Meth X.K C m f) (F : FnOk X.prog X.w X.K X.mg X.base CX k f fd ps sp) (hr : Room k X.A) (hb : Binds X.K fd ps ds) (hd : Vals dvs ds) (hx : Passes CX X E)
    (ht : eval (.Call (.Attribute o m apos) [] [] pos) X.env = (do
      let ov ← eval o X.env
      standAt apos.atName
      let (f, first) ← holding [ov] (getMethod ov m pl)
      callWith pos f first (backTo pos (starEach [] X.env)) (backToKw pos (keywordEach [] X.env))) := by rfl) :
    PE X (.Call (.Attribute o m apos) [] [] pos) (tMeth C m sp dvs E ta tNil) := by
  intro pins s σ H Q I h
  refine PySem.W.methodCall_KW (pl := pl) (thn (he pins s σ H _ I h) fun u s1 ⟨x, H1, I1, rx, a, dx, fs, ex, ea, l, q⟩ => ?_) ht
  subst ex
  obtain rfl : u = Value.ref a := rx
  refine getmeth_ok I1 ea c hm l ?_
  exact PySem.W.callWith_K0 (first := [.ref a]) I1.kIn hm.kp (run_fn (us := [.ref a]) (vs := [.ref a]) F hr hb hd hx I1 (.cons rfl .nil) q)
structure Mk (K : PySem.W.Frag) (C f : Addr) : Prop where
  makes : PySem.W.makesIn K C = true
  init : PySem.W.findIn K (.ref C) "__init__" = some (some (.ref f))
  fn : PySem.W.isFn K (.ref f) = true
  kp : PySem.W.keepIn K (.ref C) = true
theorem run_make {pins : List (Addr × Obj)} {σ : St} {H : Hp} {s : Shared} {Q : VK} {us : List Value} {vs : List V} (M : Mk X.K C f) (F : FnOk X.prog X.w X.K X.mg X.base CX k f fd ps sp) (hr : Room (k + 1) X.A) (hb : Binds X.K fd ps ds) (hd : Vals dvs ds)
    (hx : Passes CX X E) (I : Inv X pins σ H s) (r : Vals vs us)
    (h : ∀ x dx, H x = none → H dx = none → dx ≠ x → sp (.ref x :: (vs ++ dvs)) (upd (upd H dx (.own x)) x (.ins C dx [])) (fun v H2 => v = .non ∧ Q (.ref x) H2) E) :
    wpAny (model X.prog X.w) X.A (call (.ref C) us) (EP X pins σ Q) X.xe s := by
  have hq := h (s.heap.objs.size + 1) s.heap.objs.size (I.hok.fresh (Nat.le_succ _)) (I.hok.fresh (Nat.le_refl _)) (Nat.ne_of_lt (Nat.lt_succ_self _))
  have I2 := Inv.made (C := C) I
  have r2 : Vals (V.ref (s.heap.objs.size + 1) :: (vs ++ dvs)) (Value.ref (s.heap.objs.size + 1) :: (us ++ ds)) := .cons rfl (r.append hd)
  have hl : (Value.ref (s.heap.objs.size + 1) :: us ++ ds).length = ps.length := by
    have e := r2.length
    rw [F.len _ _ _ _ hq] at e
    exact e.symm
  refine wpAny_call (make_map (f := f) I.kIn M.makes M.init (beq_iff_eq.mp M.fn) (codeAny_mono (F.run _ X.stack _ _ ⟨Value.ref (s.heap.objs.size + 1) :: us, []⟩ (Value.ref (s.heap.objs.size + 1) :: (us ++ ds)) _ _ E (hr.make C us [])
    (I2.env0.make C us []) (hb _ (Value.ref (s.heap.objs.size + 1) :: us) I2.kIn hl) r2 hq) fun r s' hq' => ?_))
  cases r with
  | error e => exact hx pins σ _ _ e s' I2 hq'
  | ok fl =>
    cases fl with
    | ret u =>
      obtain ⟨v, H', I3, rv, ev, q3⟩ := I2.after hq'
      subst ev
      exact ⟨rv, ⟨V.ref (s.heap.objs.size + 1), H', I3, rfl, q3⟩⟩
    | next => exact False.elim hq'
    | brk => exact False.elim hq'
    | cont => exact False.elim hq'
theorem pe_make (M : Mk X.K C f) (F : FnOk X.prog X.w X.K X.mg X.base CX k f fd ps sp) (hr : Room (k + 1) X.A) (hg : Gl X x) (hm : X.mg x = some (.ref C)) (hb : Binds X.K fd ps ds) (hd : Vals dvs ds) (hx : Passes CX X E)
    (ha : PA X (e :: es) t) (hdb : (x == ("__debug__" : Str)) = false := by decide) (he : starEach (e :: es) X.env = (false, eval e X.env) :: starEach es X.env := by rfl) (hpl : (backTo pos (starEach es X.env)).any (·.1) = false := by rfl) :
    PE X (.Call (.Name x p) (e :: es) [] pos) (tMake C sp dvs E t) := by
  intro pins s σ H Q I h
  refine wpAny_Call_Name_kw (ld_glob I hg hm ?_ hdb)
  refine PySem.W.callWith_K (h₀ := X.base) I.ok.mod.kin M.kp (thn (ha pos pins s σ H _ I h) fun us s1 ⟨vs, H1, I1, r, q⟩ => ⟨I1.kIn, ?_⟩) he hpl
  exact run_make M F hr hb hd hx I1 r q
theorem pe_make0 (M : Mk X.K C f) (F : FnOk X.prog X.w X.K X.mg X.base CX k f fd ps sp) (hr : Room (k + 1) X.A) (hg : Gl X x) (hm : X.mg x = some (.ref C)) (hb : Binds X.K fd ps ds) (hd : Vals dvs ds) (hx : Passes CX X E)
    (hdb : (x == ("__debug__" : Str)) = false := by decide) : PE X (.Call (.Name x p) [] [] pos) (tMake C sp dvs E tNil) := by
  intro pins s σ H Q I h
  refine wpAny_Call_Name_kw (ld_glob I hg hm ?_ hdb)
  exact PySem.W.callWith_K0 I.kIn M.kp (run_make (us := []) M F hr hb hd hx I .nil h)
end
structure FnScope (N P : List Str) (sc : Scope) : Prop where
  kind : sc.kind = .function
  co : sc.isCoroutine = false
  gen : sc.isGenerator = false
  nd : N.Nodup
  pre : N.take P.length = P
  par : ∀ x ∈ P, sc.names.lookup x = some .local ∨ sc.names.lookup x = some .cell
  nofree : ∀ y ∈ sc.names, y.2 ≠ .free
theorem bindL_out {kindOf : Str → Option NameKind} {x : Str} : ∀ {binds : List (Str × Value)} {m : Str → Option Value}, (∀ v, (x, v) ∉ binds) → bindL kindOf binds m x = m x
  | [], _, _ => rfl
  | (n, v) :: r, m, h => by
    unfold bindL
    rw [bindL_out fun w hw => h w (List.mem_cons_of_mem _ hw)]
    split
    · have : x ≠ n := by rintro rfl; exact h v List.mem_cons_self
      simp [this]
    · rfl
theorem bindC_out {kindOf : Str → Option NameKind} {x : Str} : ∀ {binds : List (Str × Value)} {m : Str → Option Value}, (∀ v, (x, v) ∉ binds) → bindC kindOf binds m x = m x
  | [], _, _ => rfl
  | (n, v) :: r, m, h => by
    unfold bindC
    rw [bindC_out fun w hw => h w (List.mem_cons_of_mem _ hw)]
    split
    · rfl
    · have : x ≠ n := by rintro rfl; exact h v List.mem_cons_self
      simp [this]
theorem bindL_get {kindOf : Str → Option NameKind} {x : Str} {v : Value} : ∀ {P : List Str} {vs : List Value} {i : Nat} {m : Str → Option Value}, P.Nodup → P[i]? = some x → vs[i]? = some v → kindOf x = some .local →
    bindL kindOf (P.zip vs) m x = some v
  | [], _, _, _, _, h, _, _ => by simp at h
  | _ :: _, [], _, _, _, _, h, _ => by simp at h
  | p :: P, w :: vs, 0, m, nd, h1, h2, hk => by
    simp at h1 h2; subst h1; subst h2
    show bindL kindOf ((p, w) :: P.zip vs) m p = _
    unfold bindL
    rw [bindL_out fun v hv => (List.nodup_cons.mp nd).1 (List.of_mem_zip hv).1, if_pos hk]
    simp
  | p :: P, w :: vs, i + 1, m, nd, h1, h2, hk => by
    show bindL kindOf ((p, w) :: P.zip vs) m x = _
    unfold bindL
    exact bindL_get (i := i) (List.nodup_cons.mp nd).2 (by simpa using h1) (by simpa using h2) hk
theorem bindC_get {kindOf : Str → Option NameKind} {x : Str} {v : Value} : ∀ {P : List Str} {vs : List Value} {i : Nat} {m : Str → Option Value}, P.Nodup → P[i]? = some x → vs[i]? = some v → kindOf x ≠ some .local →
    bindC kindOf (P.zip vs) m x = some v
  | [], _, _, _, _, h, _, _ => by simp at h
  | _ :: _, [], _, _, _, _, h, _ => by simp at h
  | p :: P, w :: vs, 0, m, nd, h1, h2, hk => by
    simp at h1 h2; subst h1; subst h2
    show bindC kindOf ((p, w) :: P.zip vs) m p = _
    unfold bindC
    rw [bindC_out fun v hv => (List.nodup_cons.mp nd).1 (List.of_mem_zip hv).1, if_neg hk]
    simp
  | p :: P, w :: vs, i + 1, m, nd, h1, h2, hk => by
    show bindC kindOf ((p, w) :: P.zip vs) m x = _
    unfold bindC
    exact bindC_get (i := i) (List.nodup_cons.mp nd).2 (by simpa using h1) (by simpa using h2) hk
def start (N : List Str) (vs : List V) : St := vs.map some ++ List.replicate (N.length - vs.length) none
def cxOf (CX : CXT) (P : Program) (w : World) (K : PySem.W.Frag) (mg : Str → Option Value) (base : Heap) (N : List Str) (qual : Str) (scope : Scope) (f : Addr) (cd : Value) (A : Around) (outer : List Env) (s : Shared) (H : Hp) (E : XK) : Cx where
  prog := P
  w := w
  K := K
  mg := mg
  base := base
  A := A.deeper (envOfC qual scope s.heap.objs.size f cd)
  N := N
  s_0 := s
  H_0 := H
  env := envOfC qual scope s.heap.objs.size f cd
  outer := outer
  stack := envOfC qual scope s.heap.objs.size f cd :: outer
  ex := []
  calm := true
  fn := fun _ => true
  pn := []
  xe := fun e s' => wpAny (model P w) (A.deeper (envOfC qual scope s.heap.objs.size f cd)) (leaving (envOfC qual scope s.heap.objs.size f cd) e) (fun _ s'' => CX outer H s E e s'') (fun e' s'' => CX outer H s E e' s'') s'
theorem cell_has {sc : Scope} {n : Nat} {x : Str} (h : sc.names.lookup x = some .cell) : ∃ c, (cellsFrom n sc.names []).lookup x = some c := by
  have q := PySem.W.cellsFrom_some sc.names n [] (.inl h)
  exact Option.isSome_iff_exists.mp q
theorem inv_start {CX : CXT} {P : Program} {w : World} {K : PySem.W.Frag} {mg : Str → Option Value} {base : Heap} {N ps : List Str} {qual : Str} {scope : Scope} {f : Addr} {cd : Value} {A : Around} {outer : List Env} {s s1 : Shared} {H : Hp} {E : XK} {us : List Value} {vs : List V}
    (S : FnScope N ps scope) (hd : A.handled = none) (e0 : Env0 P w K mg base A outer s H) (hl : vs.length = ps.length) (r : Vals vs us)
    (x : InCallC s s.heap.objs.size (bindL (envOfC qual scope s.heap.objs.size f cd).kindOf (ps.zip us) fun _ => none) (cellsFrom (s.heap.objs.size + 1) scope.names []) (bindC (envOfC qual scope s.heap.objs.size f cd).kindOf (ps.zip us) fun _ => none) s1) :
    Inv (cxOf CX P w K mg base N qual scope f cd A outer s H E) [] (start N vs) H s1 := by
  have hpl : ps.length ≤ N.length := by have := congrArg List.length S.pre; rw [List.length_take] at this; omega
  obtain ⟨h1, tk, rfl, hk⟩ := x.done
  have noA : ∀ b : Addr, b ∉ (cxOf CX P w K mg base N qual scope f cd A outer s H E).ex := fun b z => absurd (show b ∈ ([] : List Addr) from z) (by simp)
  refine ⟨⟨e0.mod, S.kind, rfl, rfl, Nat.le_refl _, fun y z c h1 h2 => ?_, fun y hy => ?_, fun y c _ h => ?_, fun _ => hd, Around.frames_deeper e0.frames, .inr ⟨rfl, rfl⟩, fun b z => absurd z (noA b), e0.bs, e0.bsz, fun b _ _ => noA b, fun b z => absurd z (noA b), e0.funs, e0.frf⟩,
    rfl, e0.bare, Un.kept hk, ⟨_, x.toInCall.ns, fun i y v h1 h2 h3 => ?_⟩, fun y c h => ⟨_, x.cell y c h⟩, e0.hok.fresh (Nat.le_refl _), fun y c h => ?_, fun p hp => absurd (show p ∈ ([] : List (Addr × Obj)) from hp) (by simp), e0.hok.kept hk, ?_⟩
  · exact name_of_addr x.apart (PySem.mem_of_lookup h1) (PySem.mem_of_lookup h2)
  · have hy : scope.names.lookup y = some .cell ∨ scope.names.lookup y = some .free := hy
    rcases hy with hy | hy
    · exact cell_has hy
    · exact absurd rfl (S.nofree _ (PySem.mem_of_lookup hy))
  · exact Nat.le_of_lt (x.above y c (PySem.mem_of_lookup h))
  · have hi : i < vs.length := by
      unfold start at h2
      by_cases hi : i < vs.length
      · exact hi
      · rw [List.getElem?_append_right (by simpa using hi)] at h2
        rw [List.getElem?_replicate] at h2
        split at h2 <;> cases h2
    have ha : vs[i]? = some v := by
      unfold start at h2
      rw [List.getElem?_append_left (by simpa using hi), List.getElem?_map] at h2
      cases e : vs[i]? with
      | none => rw [e] at h2; cases h2
      | some a => rw [e] at h2; cases h2; rfl
    obtain ⟨u, hu, rv⟩ := r.get ha
    have hp : ps[i]? = some y := by
      rw [← S.pre, List.getElem?_take_of_lt (by omega)]; exact h1
    have ndP : ps.Nodup := by rw [← S.pre]; exact S.nd.sublist (List.take_sublist _ _)
    refine ⟨u, rv, ?_⟩
    rcases S.par y (List.mem_of_getElem? hp) with k | k
    · exact .inl ⟨k, bindL_get ndP hp hu k⟩
    · obtain ⟨c, e⟩ := cell_has (n := s.heap.objs.size + 1) k
      refine .inr ⟨.inl k, c, e, ?_⟩
      have q := x.cell y c e
      rw [bindC_get ndP hp hu (by show scope.names.lookup y ≠ _; rw [k]; decide)] at q
      exact q
  · exact e0.hok.fresh (Nat.le_of_lt (x.above y c (PySem.mem_of_lookup h)))
  · unfold start
    show _ = N.length
    rw [List.length_append, List.length_map, List.length_replicate]
    omega
theorem fn_of {CX : CXT} {P : Program} {w : World} {K : PySem.W.Frag} {mg : Str → Option Value} {base : Heap} {k : Nat} {f : Addr} {name qual : Str} {params : Arguments} {body : List Stmt} {scope : Scope} {dV kV doc pm cdv ct oc : Value} {an od : Option Addr}
    {osl : Array (Option Value)} {N ps : List Str} {sp : Sp} (lk : K.lookup f = some ⟨oc, od, .func (PySem.W.fnOf name qual params body scope dV kV doc pm an cdv ct), osl⟩) (hcd : PySem.W.codeIn K cdv qual = true) (S : FnScope N ps scope)
    (len : ∀ vs H Q E, sp vs H Q E → vs.length = ps.length)
    (hbody : ∀ (A : Around) (outer : List Env) (s : Shared) (H : Hp) (vs : List V) (Q : VK) (E : XK), Room k (A.deeper (envOfC qual scope s.heap.objs.size f cdv)) → sp vs H Q E →
      ∃ t, PSs (cxOf CX P w K mg base N qual scope f cdv A outer s H E) body t ∧ t { nx := fun _ H' => Q .non H', rt := Q } (start N vs) H) :
    FnOk P w K mg base CX (k + 1) f (PySem.W.fnOf name qual params body scope dV kV doc pm an cdv ct) ps sp := by
  refine ⟨len, fun A outer s H args us vs Q E hr e0 hb r hsp => ?_⟩
  have hl := len _ _ _ _ hsp
  have KX : K.In s.heap := e0.mod.kin.keeps fun b o e => (e0.bs b o e).1
  have lim : s.heap.NoLimit := e0.mod.nolimit.keeps fun b o e => (e0.bs b o e).1
  have hkind : ∀ y ∈ ps.zip us, scope.names.lookup y.1 = some .local ∨ (scope.names.lookup y.1 = some .cell ∧ ((cellsFrom (s.heap.objs.size + 1) scope.names []).lookup y.1).isSome = true) := fun ⟨n, v⟩ hy => by
    rcases S.par n (List.of_mem_zip hy).1 with q | q
    · exact .inl q
    · exact .inr ⟨q, PySem.W.cellsFrom_some _ _ _ (.inl q)⟩
  refine codeAny_call_function hr.depth (KX _ _ lk) rfl S.co S.gen rfl (PySem.W.codeRec_of KX hcd) (hb _ _ _ _ ?_)
  refine wpAny_newFunctionEnv_cells S.kind hkind fun env he s1 x => ?_
  subst he
  refine ⟨lim.keeps x.toInCall.keep, codeAny_func ?_⟩
  obtain ⟨t, ht, hq⟩ := hbody A outer s H vs Q E (hr.deeper _) hsp
  have I : Inv (cxOf CX P w K mg base N qual scope f cdv A outer s H E) [] (start N vs) H s1 := inv_start S hr.hd e0 hl r x
  refine wpAny_mono (ht [] s1 (start N vs) H _ I hq) (fun fl s' hs => ?_) fun e s' hs => hs
  have fin : ∀ {σ' : St} {H' : Hp} {v : V} {u : Value}, Inv (cxOf CX P w K mg base N qual scope f cdv A outer s H E) [] σ' H' s' → RelV v u → Q v H' → CE outer P w H s Q u s' :=
    fun {σ' H' v u} J rv q => ⟨v, H', J.os, J.bare, J.base, J.hok, rv, q⟩
  cases fl with
  | ret u =>
    obtain ⟨v, σ', H', J, rv, q⟩ := hs
    exact fin J rv q
  | next =>
    obtain ⟨σ', H', J, q⟩ := hs
    exact fin (v := V.non) (u := Value.none) J rfl q
  | brk =>
    obtain ⟨_, _, _, q⟩ := hs
    exact False.elim q
  | cont =>
    obtain ⟨_, _, _, q⟩ := hs
    exact False.elim q
end L2
namespace L2
open PySem PySem.Spec PyProof.Rows
section
variable {X : Cx} {x : Str} {p pos : Pos} {e : Expr} {es : List Expr} {t : TA} {id T : String} {r : List V → Hp → VK → Prop}
def tCB (r : List V → Hp → VK → Prop) (t : TA) : TE := fun σ H Q => t σ H fun vs H1 => r vs H1 Q
theorem pe_callB (hc : CallR X (.builtin id) r) (hg : Gl X x) (hm : X.mg x = none) (hv : bootBuiltins x = some (.builtin id)) (ha : PA X (e :: es) t) (hn : x ≠ "__name__" := by decide) (hdb : (x == ("__debug__" : Str)) = false := by decide)
    (he : starEach (e :: es) X.env = (false, eval e X.env) :: starEach es X.env := by rfl) (hpl : (backTo pos (starEach es X.env)).any (·.1) = false := by rfl) : PE X (.Call (.Name x p) (e :: es) [] pos) (tCB r t) := by
  intro pins s σ H Q I h
  refine wpAny_Call_Name_kw (ld_blt I hg hm hv ?_ hn hdb)
  exact PyProof.Rows.callWith_builtin1 (thn (ha pos pins s σ H _ I h) fun us s1 ⟨vs, H1, I1, r1, q1⟩ => hc pins s1 σ H1 vs us Q I1 r1 q1) he hpl
theorem pe_callTy (hc : CallR X (.type T) r) (hg : Gl X x) (hm : X.mg x = none) (hv : bootBuiltins x = some (.type T)) (ha : PA X (e :: es) t) (hn : x ≠ "__name__" := by decide) (hdb : (x == ("__debug__" : Str)) = false := by decide)
    (he : starEach (e :: es) X.env = (false, eval e X.env) :: starEach es X.env := by rfl) (hpl : (backTo pos (starEach es X.env)).any (·.1) = false := by rfl) : PE X (.Call (.Name x p) (e :: es) [] pos) (tCB r t) := by
  intro pins s σ H Q I h
  refine wpAny_Call_Name_kw (ld_blt I hg hm hv ?_ hn hdb)
  exact PyProof.Rows.callWith_type1 (thn (ha pos pins s σ H _ I h) fun us s1 ⟨vs, H1, I1, r1, q1⟩ => hc pins s1 σ H1 vs us Q I1 r1 q1) he hpl
end
end L2
namespace HT
open PySem PyProof.Rows
section
variable {prog : Program} {w : World} {A : Around} {E : Value → Shared → Prop} {s : Shared}
def sIx (n d : Nat) : Option Int → Nat
  | none => d
  | some v => if v < 0 then (v + (n : Int)).toNat else min v.toNat n
theorem sIx_none (n d : Nat) : sIx n d none = d := rfl
theorem sIx_nat (n d k : Nat) : sIx n d (some (k : Int)) = min k n := by
  show (if (k : Int) < 0 then ((k : Int) + (n : Int)).toNat else min (k : Int).toNat n) = min k n
  rw [if_neg (by omega), Int.toNat_natCast]
theorem sIx_le (n d : Nat) (hd : d ≤ n) (o : Option Int) : sIx n d o ≤ n := by
  cases o with
  | none => exact hd
  | some v =>
    show (if v < 0 then (v + (n : Int)).toNat else min v.toNat n) ≤ n
    by_cases hv : v < 0
    · rw [if_pos hv]; omega
    · rw [if_neg hv]; exact Nat.min_le_right _ _
theorem clip_eq (v : Int) (n d : Nat) : (if v < 0 then max (v + (n : Int)) 0 else min v (n : Int)) = ((sIx n d (some v) : Nat) : Int) := by
  show (if v < 0 then max (v + (n : Int)) 0 else min v (n : Int)) = (((if v < 0 then (v + (n : Int)).toNat else min v.toNat n) : Nat) : Int)
  by_cases hv : v < 0
  · simp only [if_pos hv]; omega
  · simp only [if_neg hv]; omega
theorem adjust_gen (lo hi : Option Int) (n : Nat) : Builtin.Slice.sliceAdjust lo hi 1 (n : Int) = (((sIx n 0 lo : Nat) : Int), ((sIx n n hi : Nat) : Int)) := by
  have h1 : ¬ ((1 : Int) < 0) := by omega
  unfold Builtin.Slice.sliceAdjust
  simp only [h1, if_false]
  refine Prod.ext ?_ ?_
  · cases lo with
    | none => rfl
    | some v => exact clip_eq v n 0
  · cases hi with
    | none => rfl
    | some v => exact clip_eq v n n
theorem places_gen (i j : Nat) : Builtin.Slice.slicePlaces (i : Int) (j : Int) 1 = j - i := by
  unfold Builtin.Slice.slicePlaces
  have h1 : (1 : Int) > 0 := by omega
  simp only [h1, if_true, Int.ediv_one]
  split <;> omega
theorem slicePart_ {v : Value} {o : Option Int} {Q : Option Int → Shared → Prop} (p : IsPart v o) (h : Q o s) : wpAny (model prog w) A (Builtin.Slice.slicePartIndex v) Q E s := by
  cases p with
  | none => exact slicePart_none h
  | int i t => exact slicePart_int h
theorem sliceApplied_gen {sl : Addr} {vl vu : Value} {lo hi : Option Int} {n : Nat} {Q : Int × Int × Nat → Shared → Prop} (hs : s.heap.IsSliceOf sl vl vu .none) (pl : IsPart vl lo) (pu : IsPart vu hi)
    (h : Q (((sIx n 0 lo : Nat) : Int), 1, sIx n n hi - sIx n 0 lo) s) : wpAny (model prog w) A (Builtin.Slice.sliceApplied (.ref sl) (pure (n : Int))) Q E s := by
  obtain ⟨os, hos, hcs, hds⟩ := id hs
  unfold Builtin.Slice.sliceApplied Builtin.Slice.sliceFields
  refine wpAny_bind (wpAny_bind (wpAny_field hos hds (x := vl) rfl (wpAny_bind (wpAny_field hos hds (x := vu) rfl (wpAny_bind (wpAny_field hos hds (x := .none) rfl (wpAny_pure ?_)))))))
  refine wpAny_bind (slicePart_none ?_)
  show wpAny _ _ (if ((1 : Int) == 0) = true then _ else _) _ _ s
  rw [if_neg (by decide)]
  refine wpAny_bind (slicePart_ pl (wpAny_bind (slicePart_ pu (wpAny_bind (wpAny_pure ?_)))))
  show wpAny _ _ (match Builtin.Slice.sliceAdjust lo hi 1 (n : Int) with | (lo, hi) => pure (lo, (1 : Int), Builtin.Slice.slicePlaces lo hi 1)) _ _ s
  rw [adjust_gen lo hi n]
  show wpAny _ _ (pure (((sIx n 0 lo : Nat) : Int), (1 : Int), Builtin.Slice.slicePlaces ((sIx n 0 lo : Nat) : Int) ((sIx n n hi : Nat) : Int) 1)) _ _ s
  rw [places_gen]
  exact wpAny_pure h
theorem pick_gen (xs : Array Value) (i k : Nat) : ((List.range k).filterMap fun (m : Nat) => xs[((i : Int) + (m : Int) * 1).toNat]?).toArray = ((xs.toList.drop i).take k).toArray := by
  have e : (fun (m : Nat) => xs[((i : Int) + (m : Int) * 1).toNat]?) = fun m => xs[i + m]? := by
    funext m
    have : ((i : Int) + (m : Int) * 1).toNat = i + m := by omega
    rw [this]
  rw [e]
  have := pick_run xs i k
  rw [List.filterMap_map] at this
  have e2 : ((fun x => xs[x]?) ∘ fun x => i + x) = fun m => xs[i + m]? := rfl
  rw [e2] at this
  rw [this]
theorem getItem_tuple_cut {t sl : Addr} {items : Array Value} {vl vu : Value} {lo hi : Option Int} {Q : Value → Shared → Prop} (ht : IsTup s.heap t items) (hs : s.heap.IsSliceOf sl vl vu .none) (pl : IsPart vl lo) (pu : IsPart vu hi)
    (hw : ¬ (sIx items.size 0 lo = 0 ∧ sIx items.size items.size hi = items.size))
    (h : Q (.ref s.heap.objs.size) { s with heap := s.heap.push { cls := .type "tuple", data := .seq ((items.toList.drop (sIx items.size 0 lo)).take (sIx items.size items.size hi - sIx items.size 0 lo)).toArray } })
    (hsz : items.size ≤ sizeLine) : wpAny (model prog w) A (getItem (.ref t) (.ref sl)) Q E s := by
  have htake : sizeOk (.seq ((items.toList.drop (sIx items.size 0 lo)).take (sIx items.size items.size hi - sIx items.size 0 lo)).toArray) := by
    show ((items.toList.drop (sIx items.size 0 lo)).take (sIx items.size items.size hi - sIx items.size 0 lo)).toArray.size ≤ sizeLine
    rw [List.size_toArray, List.length_take, List.length_drop, Array.length_toList]
    omega
  have hj : sIx items.size items.size hi ≤ items.size := sIx_le _ _ (Nat.le_refl _) hi
  obtain ⟨os, hos, hcs, hds⟩ := id hs
  have hTs : s.TypeIs (.ref sl) "slice" := ⟨os, hos, hcs⟩
  unfold getItem
  try with_reducible refine wpAny_holding ?_
  first | refine wpAny_bind (wpAny_pure ?_) | skip
  refine wpAny_bind (wpAny_sequenceKey ht.typeIs (by decide) ?_)
  refine wpAny_bind (wpAny_callSpecial?_slot (name := Str.ofString "__getitem__") ht.typeIs PyProof.Rows.slot_tuple_getitem
    (wpAny_call_entry PyProof.Rows.slot_tuple_getitem ht.typeIs entry_tuple_getitem ?_ (args_tuple_getitem _ _)))
  show wpAny _ _ (Builtin.Tuple.tupleItemsOf (.ref t) >>= _) _ _ s
  refine wpAny_bind (tupleItemsOf_ ht ?_)
  refine wpAny_bind (wpAny_typeOf hTs ?_)
  rw [if_pos (by decide)]
  refine wpAny_bind (sliceApplied_gen hs pl pu ?_)
  have hno : ¬ ((((sIx items.size 0 lo : Nat) : Int) == 0 && (1 : Int) == 1 && (sIx items.size items.size hi - sIx items.size 0 lo) == items.size) = true) := by
    intro q
    rw [Bool.and_eq_true, Bool.and_eq_true] at q
    have q1 : ((sIx items.size 0 lo : Nat) : Int) = 0 := eq_of_beq q.1.1
    have q2 : sIx items.size items.size hi - sIx items.size 0 lo = items.size := eq_of_beq q.2
    exact hw ⟨by omega, by omega⟩
  show wpAny _ _ (if (((sIx items.size 0 lo : Nat) : Int) == 0 && (1 : Int) == 1 && (sIx items.size items.size hi - sIx items.size 0 lo) == items.size) = true then _ else _) _ _ s
  rw [if_neg hno, pick_gen]
  first
    | exact wpAny_bind (m := Builtin.Tuple.tupleExact _) (wpAny_newObj_type (wpAny_pure ⟨_, rfl, wpAny_pure h⟩) htake)
    | exact wpAny_bind (m := Builtin.Tuple.tupleExact _) (wpAny_newObj_type (wpAny_bind (wpAny_pure (wpAny_pure ⟨_, rfl, wpAny_pure h⟩))) htake)
    | exact wpAny_bind (wpAny_bind (m := Builtin.Tuple.tupleExact _) (wpAny_newObj_type (wpAny_pure (wpAny_pure ⟨_, rfl, wpAny_pure h⟩)) htake))
    | exact wpAny_bind (wpAny_bind (m := Builtin.Tuple.tupleExact _) (wpAny_newObj_type (wpAny_pure ⟨_, rfl, wpAny_pure h⟩) htake))
end
end HT
namespace L2
open PySem PySem.Spec PyProof.Rows
abbrev TO := St → Hp → (Option Int → Hp → Prop) → Prop
def PO (X : Cx) (e : Option Expr) (t : TO) : Prop :=
  ∀ (pins : List (Addr × Obj)) (s : Shared) (σ : St) (H : Hp) (Q : Option Int → Hp → Prop), Inv X pins σ H s → t σ H Q →
    wpAny (model X.prog X.w) X.A (evalPart e X.env) (fun u s' => ∃ o H', Inv X pins σ H' s' ∧ IsPart u o ∧ Q o H') X.xe s
def tNoPart : TO := fun _ H Q => Q none H
def tPart (t : TE) : TO := fun σ H Q => t σ H fun x H1 => ∃ i, x = .int i ∧ Q (some i) H1
section
variable {X : Cx} {e : Expr} {te : TE} {lo hi : Option Expr} {tl th : TO} {pos p2 : Pos}
theorem po_none : PO X none tNoPart := by
  intro pins s σ H Q I h
  rw [evalPart_none]
  exact wpAny_pure ⟨none, H, I, .none, h⟩
theorem po_some (h : PE X e te) : PO X (some e) (tPart te) := by
  intro pins s σ H Q I hw
  rw [evalPart_some]
  refine thn (h pins s σ H _ I hw) fun u s1 ⟨x, H1, I1, r1, q1⟩ => ?_
  obtain ⟨i, rfl, q⟩ := q1
  obtain ⟨t, rfl⟩ := r1
  exact ⟨some i, H1, I1, .int i t, q⟩
def SlR (X : Cx) (r : V → Option Int → Option Int → Hp → VK → Prop) : Prop :=
  ∀ (pins : List (Addr × Obj)) (s : Shared) (σ : St) (H : Hp) (x : V) (v vl vu : Value) (lo hi : Option Int) (sl : Addr) (Q : VK), Inv X pins σ H s → RelV x v → s.heap.IsSliceOf sl vl vu .none → IsPart vl lo → IsPart vu hi → r x lo hi H Q →
    ∃ T id, typeLookup (.type T) "__getitem__" = pure (some (.builtin id)) ∧ s.TypeIs v T ∧ wpAny (model X.prog X.w) X.A (getItem v (.ref sl)) (EP X pins σ Q) X.xe s
def tSl (r : V → Option Int → Option Int → Hp → VK → Prop) (te : TE) (tl th : TO) : TE := fun σ H Q => te σ H fun x H1 => tl σ H1 fun l H2 => th σ H2 fun u H3 => r x l u H3 Q
theorem pe_slice {r : V → Option Int → Option Int → Hp → VK → Prop} (hr : SlR X r) (he : PE X e te) (hl : PO X lo tl) (hu : PO X hi th) : PE X (.Subscript e (.Slice lo hi none p2) pos) (tSl r te tl th) := by
  intro pins s σ H Q I h
  refine Subscript_ (thn (he pins s σ H _ I h) fun v s1 ⟨x, H1, I1, r1, q1⟩ => ?_)
  refine wpAny_Slice (thn (hl pins s1 σ H1 _ I1 q1) fun vl s2 ⟨l, H2, I2, pl, q2⟩ => thn (hu pins s2 σ H2 _ I2 q2) fun vu s3 ⟨u, H3, I3, pu, q3⟩ => ?_)
  rw [evalPart_none]
  refine wpAny_pure ?_
  have I4 : Inv X pins σ H3 { s3 with heap := s3.heap.push { cls := .type "slice", data := .fields #[vl, vu, .none] } } := I3.kept (t' := s3.toks) fun b ob q => Heap.get?_push_of_some _ q
  obtain ⟨T, id, hT, ht, hg⟩ := hr pins { s3 with heap := s3.heap.push { cls := .type "slice", data := .fields #[vl, vu, .none] } } σ H3 x v vl vu l u s3.heap.objs.size Q I4 r1 (Heap.IsSliceOf.new ..) pl pu q3
  show wpAny (model X.prog X.w) X.A (subscriptTail e (.Slice lo hi none p2) v (.ref s3.heap.objs.size)) (EP X pins σ Q) X.xe { s3 with heap := s3.heap.push { cls := .type "slice", data := .fields #[vl, vu, .none] } }
  exact tail_any (ops := [.ref s3.heap.objs.size, v]) ht hT hg (by with_unfolding_all rfl)
def cutV (xs : List V) (lo hi : Option Int) : List V := (xs.drop (HT.sIx xs.length 0 lo)).take (HT.sIx xs.length xs.length hi - HT.sIx xs.length 0 lo)
theorem cutV_length (xs : List V) (lo hi : Option Int) : (cutV xs lo hi).length ≤ xs.length := by
  unfold cutV
  rw [List.length_take, List.length_drop]
  omega
def rSlT (K : PySem.W.Frag) : V → Option Int → Option Int → Hp → VK → Prop := fun x lo hi H Q => ∃ a xs, x = .ref a ∧ SqT K H a xs ∧
  ¬ (HT.sIx xs.length 0 lo = 0 ∧ HT.sIx xs.length xs.length hi = xs.length) ∧ ∀ p, H p = none → Q (.ref p) (upd H p (.tup (cutV xs lo hi)))
theorem sl_tup : SlR X (rSlT X.K) := by
  intro pins s σ H x v vl vu lo hi sl Q I rx hs pl pu h
  obtain ⟨a, xs, rfl, hx, hw, q⟩ := h
  cases rx
  obtain ⟨its, r, ht, hz⟩ := I.tuple hx
  have hlen : its.toArray.size = xs.length := by rw [List.size_toArray]; exact r.length.symm
  refine ⟨"tuple", _, PyProof.Rows.slot_tuple_getitem.lookup, ht.typeIs, ?_⟩
  refine HT.getItem_tuple_cut ht hs pl pu (by rw [hlen]; exact hw) ?_ (by rw [hlen]; exact hz)
  rw [hlen]
  refine ⟨.ref s.heap.objs.size, _, I.laid (t' := s.toks) (o := .tup (cutV xs lo hi)) (fun b ob q => Heap.get?_push_of_some _ q) (Nat.le_refl _) ?_, rfl, q _ (I.hok.fresh (Nat.le_refl _))⟩
  exact ⟨Nat.le_trans (cutV_length xs lo hi) hz, _, (r.drop (HT.sIx xs.length 0 lo)).take (HT.sIx xs.length xs.length hi - HT.sIx xs.length 0 lo), IsTup.new _ _⟩
end
end L2
namespace L2
open PySem PySem.Spec PyProof.Rows
def ixN (n : Nat) (i : Int) : Option Nat := if 0 ≤ i then (if i < n then some i.toNat else none) else if -(n : Int) ≤ i then some (i + n).toNat else none
def atI {α : Type} (xs : List α) (i : Int) : Option α := (ixN xs.length i).bind fun j => xs[j]?
theorem ixN_seq {n : Nat} {i : Int} {j : Nat} (h : ixN n i = some j) : seqIndex? i n = some j ∧ j < n ∧ -(n : Int) ≤ i ∧ i < n := by
  unfold ixN at h
  by_cases h0 : 0 ≤ i
  · rw [if_pos h0] at h
    by_cases h1 : i < n
    · rw [if_pos h1] at h
      have e : i.toNat = j := Option.some.inj h
      exact ⟨by rw [seqIndex_of h0 h1, e], by omega, by omega, h1⟩
    · rw [if_neg h1] at h; cases h
  · rw [if_neg h0] at h
    by_cases h1 : -(n : Int) ≤ i
    · rw [if_pos h1] at h
      have e : (i + n).toNat = j := Option.some.inj h
      exact ⟨by rw [seqIndex_neg (by omega) h1, e], by omega, h1, by omega⟩
    · rw [if_neg h1] at h; cases h
theorem atI_get {α : Type} {xs : List α} {i : Int} {v : α} (h : atI xs i = some v) : ∃ j, seqIndex? i xs.length = some j ∧ xs[j]? = some v ∧ j < xs.length ∧ -(xs.length : Int) ≤ i ∧ i < xs.length := by
  unfold atI at h
  cases e : ixN xs.length i with
  | none => rw [e] at h; cases h
  | some j =>
    rw [e] at h
    obtain ⟨h1, h2, h3, h4⟩ := ixN_seq e
    exact ⟨j, h1, h, h2, h3, h4⟩
theorem atI_nat {α : Type} {xs : List α} {j : Nat} {v : α} (h : xs[j]? = some v) : atI xs (j : Int) = some v := by
  have hj : j < xs.length := (List.getElem?_eq_some_iff.mp h).1
  have e : ixN xs.length (j : Int) = some j := by
    unfold ixN
    rw [if_pos (by omega), if_pos (by omega)]; simp
  unfold atI; rw [e]; exact h
def PlainIx (b : Expr) : Prop := ∀ o i, subscripted b false o i = operate [o, i] (getItem o i)
def IxR (X : Cx) (r : R2) : Prop :=
  ∀ (value slice : Expr) (pins : List (Addr × Obj)) (s : Shared) (σ : St) (H : Hp) (x y : V) (v u : Value) (Q : VK), Inv X pins σ H s → RelV x v → RelV y u → r x y H Q →
    subscripted slice false v u = operate [v, u] (getItem v u) → wpAny (model X.prog X.w) X.A (subscriptTail value slice v u) (EP X pins σ Q) X.xe s
def MtR (X : Cx) (id : String) (r : V → List V → Hp → VK → Prop) : Prop :=
  ∀ (pins : List (Addr × Obj)) (s : Shared) (σ : St) (H : Hp) (x : V) (xs : List V) (v : Value) (us : List Value) (Q : VK), Inv X pins σ H s → RelV x v → Vals xs us → r x xs H Q →
    wpAny (model X.prog X.w) X.A (call (.builtin id) (v :: us)) (EP X pins σ Q) X.xe s
section
variable {X : Cx} {a b : Expr} {ta tb : TE} {pos : Pos}
theorem pe_ix {r : R2} (hr : IxR X r) (ha : PE X a ta) (hb : PE X b tb) (hs : PlainIx b) : PE X (.Subscript a b pos) (tOp r ta tb) := by
  intro pins s σ H Q I h
  exact Subscript_ (binT ha hb I h fun v u s2 x y H2 I2 rx ry q => hr a b pins s2 σ H2 x y v u Q I2 rx ry q (hs _ _))
def rIxL (K : PySem.W.Frag) : R2 := fun x y H Q => ∃ p xs i v, x = .ref p ∧ y = .int i ∧ SqL K H p xs ∧ atI xs i = some v ∧ Q v H
def rIxT (K : PySem.W.Frag) : R2 := fun x y H Q => ∃ p xs i v, x = .ref p ∧ y = .int i ∧ SqT K H p xs ∧ atI xs i = some v ∧ Q v H
theorem ix_list : IxR X (rIxL X.K) := by
  intro value slice pins s σ H x y v u Q I rx ry h hs
  obtain ⟨p, xs, i, z, rfl, rfl, hq, he, q⟩ := h
  cases rx
  obtain ⟨t, rfl⟩ := ry
  obtain ⟨its, r, pl, hz⟩ := I.list hq
  obtain ⟨j, h1, h2, h3, h4, h5⟩ := atI_get he
  obtain ⟨w, ew, rw'⟩ := r.get h2
  have hl := r.length
  have hn := line63
  have fin : EP X pins σ Q w s := ⟨z, H, I, rw', q⟩
  by_cases h0 : 0 ≤ i
  · have hj : i.toNat = j := by
      rw [seqIndex_of h0 h5] at h1
      exact Option.some.inj h1
    exact item_listR pl.isList h0 (by omega) (by rw [hj]; simpa using ew) fin hs
  · have hj : (i + (its.toArray.size : Int)).toNat = j := by
      rw [seqIndex_neg (by omega) h4] at h1
      rw [List.size_toArray, ← hl]
      exact Option.some.inj h1
    exact subscriptTail_builtinR (x := w) pl.isList.typeIs slot_list_getitem.lookup
      (wpAny_getItem_list_neg (Q := fun r s' => r = w ∧ EP X pins σ Q r s') pl.isList (by omega) (by rw [List.size_toArray] <;> omega) (by omega) (by rw [hj]; simpa using ew) ⟨rfl, fin⟩) hs
theorem ix_tup : IxR X (rIxT X.K) := by
  intro value slice pins s σ H x y v u Q I rx ry h hs
  obtain ⟨p, xs, i, z, rfl, rfl, hq, he, q⟩ := h
  cases rx
  obtain ⟨t, rfl⟩ := ry
  obtain ⟨its, r, pl, hz⟩ := I.tuple hq
  obtain ⟨j, h1, h2, h3, h4, h5⟩ := atI_get he
  obtain ⟨w, ew, rw'⟩ := r.get h2
  have hl := r.length
  have hn := line63
  have fin : EP X pins σ Q w s := ⟨z, H, I, rw', q⟩
  exact subscriptTail_builtinR (x := w) pl.typeIs slot_tuple_getitem.lookup
    (getItem_tuple (j := j) (Q := fun r s' => r = w ∧ EP X pins σ Q r s') pl (by omega) (by omega) (by rw [List.size_toArray, ← hl]; exact h1) (by simpa using ew) ⟨rfl, fin⟩) hs
theorem mapSeq_set (its : List Value) (n j : Nat) (u : Value) : Obj.mapSeq (·.setIfInBounds j u) { cls := .type "list", data := .seq its.toArray n } = { cls := .type "list", data := .seq (its.set j u).toArray n } := by
  simp [Obj.mapSeq]
theorem Inv.lst {pins : List (Addr × Obj)} {σ : St} {H : Hp} {s : Shared} {p : Addr} {xs : List V} (I : Inv X pins σ H s) (h : H p = some (.lst xs)) :
    ∃ (its : List Value) (n : Nat), Vals xs its ∧ s.heap.get? p = some { cls := .type "list", data := .seq its.toArray n } ∧ xs.length ≤ sizeLine := by
  obtain ⟨z, its, n, r, e⟩ := I.hok p _ h
  exact ⟨its, n, r, e, z⟩
theorem Inv.lstUpd {pins : List (Addr × Obj)} {σ : St} {H : Hp} {s : Shared} {p : Addr} {xs ys : List V} {its its' : List Value} {n n' : Nat} {f : Obj → Obj} (I : Inv X pins σ H s) (h : H p = some (.lst xs))
    (ho : s.heap.get? p = some { cls := .type "list", data := .seq its.toArray n }) (hf : f { cls := .type "list", data := .seq its.toArray n } = { cls := .type "list", data := .seq its'.toArray n' }) (r : Vals ys its') (hz : ys.length ≤ sizeLine) (t : Nat) :
    Inv X pins σ (upd H p (.lst ys)) { s with heap := s.heap.update p f, toks := t } := by
  have e : (s.heap.update p f).get? p = some { cls := .type "list", data := .seq its'.toArray n' } := by
    rw [Heap.get?_update_self f ho (by rw [hf] <;> rfl), hf]
  refine I.write (x := p) (e := p) (by rw [h]; trivial) (.inl rfl) (fun b u hb q => (Heap.get?_update_other _ _ (Ne.symm hb)).trans q) ⟨_, e⟩ ?_
  exact ⟨hz, its', n', r, e⟩
def rSetL : V → V → V → Hp → (Hp → Prop) → Prop := fun o i v H Q => ∃ p xs k j, o = .ref p ∧ i = .int k ∧ H p = some (.lst xs) ∧ ixN xs.length k = some j ∧ Q (upd H p (.lst (xs.set j v)))
theorem set_list : PSet X rSetL := by
  intro pins s σ H o i v ov iv u Q I ro ri rv h
  obtain ⟨p, xs, k, j, rfl, rfl, hp, hj, q⟩ := h
  cases ro
  obtain ⟨t, rfl⟩ := ri
  obtain ⟨its, n, r, ho, hz⟩ := I.lst hp
  obtain ⟨h1, h2, h3, h4⟩ := ixN_seq hj
  have hl := r.length
  have hn := line63
  have I' : Inv X pins σ (upd H p (.lst (xs.set j v))) { s with heap := s.heap.update p (Obj.mapSeq (·.setIfInBounds j u)) } :=
    I.lstUpd hp ho (mapSeq_set its n j u) (r.set rv j) (by rw [List.length_set]; exact hz) s.toks
  by_cases h0 : 0 ≤ k
  · have hk : k.toNat = j := by
      rw [seqIndex_of h0 h4] at h1
      exact Option.some.inj h1
    exact PySem.W.ki_setAt ho h0 (by omega) (by rw [List.size_toArray, ← hl]; exact h4) (by rw [hk]; exact ⟨_, I', q⟩)
  · have hk : (k + (its.toArray.size : Int)).toNat = j := by
      rw [seqIndex_neg (by omega) h3] at h1
      rw [List.size_toArray, ← hl]
      exact Option.some.inj h1
    exact PySem.W.ki_setBack ho (by omega) (by rw [List.size_toArray, ← hl]; exact h3) (by omega) (by rw [hk]; exact ⟨_, I', q⟩)
theorem slice_bounds (lo hi : Option Int) (n : Nat) : (sliceBounds lo hi none n).1 = ((HT.sIx n 0 lo : Nat) : Int) ∧ (sliceBounds lo hi none n).2.1 = ((HT.sIx n n hi : Nat) : Int) ∧ (sliceBounds lo hi none n).2.2 = 1 := by
  refine ⟨?_, ?_, rfl⟩
  · cases lo with
    | none => simp [sliceBounds, HT.sIx]
    | some i =>
      simp only [sliceBounds, HT.sIx, Option.getD_none, show (1 : Int) > 0 by decide, if_true]
      by_cases h : i < 0
      · simp only [h, if_true] <;> omega
      · simp only [h, if_false] <;> omega
  · cases hi with
    | none => simp [sliceBounds, HT.sIx]
    | some i =>
      simp only [sliceBounds, HT.sIx, Option.getD_none, show (1 : Int) > 0 by decide, if_true]
      by_cases h : i < 0
      · simp only [h, if_true] <;> omega
      · simp only [h, if_false] <;> omega
theorem slicePick_cut (its : List Value) (lo hi : Option Int) : slicePick its.toArray lo hi none = ((its.drop (HT.sIx its.length 0 lo)).take (HT.sIx its.length its.length hi - HT.sIx its.length 0 lo)).toArray := by
  obtain ⟨h1, h2, h3⟩ := slice_bounds lo hi its.toArray.size
  unfold slicePick
  rw [h1, h2, h3]
  simp only [sliceRange_one, pick_run, List.size_toArray] <;> rfl
def rSlL (K : PySem.W.Frag) : V → Option Int → Option Int → Hp → VK → Prop := fun x lo hi H Q => ∃ a xs, x = .ref a ∧ SqL K H a xs ∧ ∀ p, H p = none → Q (.ref p) (upd H p (.lst (cutV xs lo hi)))
theorem sl_list : SlR X (rSlL X.K) := by
  intro pins s σ H x v vl vu lo hi sl Q I rx hs pl pu h
  obtain ⟨a, xs, rfl, hx, q⟩ := h
  cases rx
  obtain ⟨its, r, ht, hz⟩ := I.list hx
  have hlen := r.length
  refine ⟨"list", _, slot_list_getitem.lookup, ht.isList.typeIs, ?_⟩
  refine wpAny_getItem_list_slice ht.isList hs pl pu .none (by simp) ?_ (by rw [List.size_toArray] <;> omega)
  rw [slicePick_cut, ← hlen]
  refine ⟨.ref s.heap.objs.size, _, I.laid (t' := s.toks) (o := .lst (cutV xs lo hi)) (fun b ob q => Heap.get?_push_of_some _ q) (Nat.le_refl _) ?_, rfl, q _ (I.hok.fresh (Nat.le_refl _))⟩
  exact ⟨Nat.le_trans (cutV_length xs lo hi) hz, _, 0, (r.drop (HT.sIx xs.length 0 lo)).take (HT.sIx xs.length xs.length hi - HT.sIx xs.length 0 lo), Heap.get?_push_size _ rfl⟩
theorem call_len_seq : CallR X (.builtin "len") (fun xs H Q => ∃ p ys, xs = [.ref p] ∧ (SqL X.K H p ys ∨ SqT X.K H p ys) ∧ Q (.int ys.length) H) := by
  intro pins s σ H xs us Q I r h
  obtain ⟨p, ys, rfl, hq, q⟩ := h
  obtain ⟨u, rfl, rx⟩ := vals1 r
  cases rx
  have hn := line63
  rcases hq with hq | hq
  · obtain ⟨its, r', pl, hz⟩ := I.list hq
    have hlen := r'.length
    exact Calls.call_len_list pl.isList (by simp only [List.size_toArray] <;> omega) ⟨.int ys.length, H, I.tok _, ⟨s.toks + 1, by rw [List.size_toArray, hlen]⟩, q⟩
  · obtain ⟨its, r', pl, hz⟩ := I.tuple hq
    have hlen := r'.length
    exact len_tuple pl (by simp only [List.size_toArray] <;> omega) ⟨.int ys.length, H, I.tok _, ⟨s.toks + 1, by rw [List.size_toArray, hlen]⟩, q⟩
theorem call_list_of : CallR X (.type "list") (fun xs H Q => ∃ p ys, xs = [.ref p] ∧ (SqL X.K H p ys ∨ SqT X.K H p ys) ∧ ∀ l, H l = none → Q (.ref l) (upd H l (.lst ys))) := by
  intro pins s σ H xs us Q I r h
  obtain ⟨p, ys, rfl, hq, q⟩ := h
  obtain ⟨u, rfl, rx⟩ := vals1 r
  cases rx
  have fin : ∀ (its : List Value), Vals ys its → ys.length ≤ sizeLine → ∀ (h' : Heap) (c' : Nat), (∀ b o', s.heap.get? b = some o' → h'.get? b = some o') →
      h'.get? s.heap.objs.size = some { cls := .type "list", dict := none, data := .seq its.toArray c', slots := #[] } → EP X pins σ Q (.ref s.heap.objs.size) { s with heap := h' } := fun its r' hz h' c' kp e =>
    ⟨.ref s.heap.objs.size, _, I.laid (t' := s.toks) kp (Nat.le_refl _) (show ObjOk X.prog X.w _ h' _ (.lst ys) from ⟨hz, its, c', r', e⟩), rfl, q _ (I.hok.fresh (Nat.le_refl _))⟩
  rcases hq with hq | hq
  · obtain ⟨its, r', pl, hz⟩ := I.list hq
    have hlen := r'.length
    obtain ⟨o, ho, hc, n, hd⟩ := pl.isList
    exact call_list_seq p (.inl rfl) ho hc hd (fun h' c' kp e => fin its r' hz h' c' kp e) (by simp only [List.size_toArray] <;> omega)
  · obtain ⟨its, r', pl, hz⟩ := I.tuple hq
    have hlen := r'.length
    obtain ⟨o, ho, hc, n, hd⟩ := pl
    exact call_list_seq p (.inr rfl) ho hc hd (fun h' c' kp e => fin its r' hz h' c' kp e) (by simp only [List.size_toArray] <;> omega)
theorem call_tuple_of : CallR X (.type "tuple") (fun xs H Q => ∃ p ys, xs = [.ref p] ∧ ((SqL X.K H p ys ∧ ∀ l, H l = none → Q (.ref l) (upd H l (.tup ys))) ∨ (SqT X.K H p ys ∧ Q (.ref p) H))) := by
  intro pins s σ H xs us Q I r h
  obtain ⟨p, ys, rfl, h⟩ := h
  obtain ⟨u, rfl, rx⟩ := vals1 r
  cases rx
  rcases h with ⟨hq, q⟩ | ⟨hq, q⟩
  · obtain ⟨its, r', pl, hz⟩ := I.list hq
    have hlen := r'.length
    refine call_tuple_list pl.isList (fun h' kp => ?_) (by simp only [List.size_toArray] <;> omega)
    have I1 : Inv X pins σ H { s with heap := h' } := I.kept (t' := s.toks) kp
    have I2 : Inv X pins σ (upd H h'.objs.size (.tup ys)) { s with heap := h'.push { cls := .type "tuple", data := .seq its.toArray } } :=
      I1.laid (t' := s.toks) (fun b o e => Heap.get?_push_of_some _ e) (Nat.le_refl _) (show ObjOk X.prog X.w _ _ _ (.tup ys) from ⟨hz, its, r', IsTup.new _ _⟩)
    exact ⟨.ref h'.objs.size, _, I2, rfl, q _ (I1.hok.fresh (Nat.le_refl _))⟩
  · obtain ⟨its, r', pl, hz⟩ := I.tuple hq
    exact call_tuple_same pl ⟨.ref p, H, I, rfl, q⟩
def tyV (K : PySem.W.Frag) (T : String) (x : V) (H : Hp) : Prop := match x with
  | .str _ => T = "str"
  | .int _ => T = "int"
  | .ref p => (T = "list" ∧ ∃ xs, SqL K H p xs) ∨ (T = "tuple" ∧ ∃ o, K.lookup p = some o ∧ o.cls = .type "tuple" ∧ o.dict = none) ∨
      (T = "dict" ∧ ((∃ kvs, H p = some (.dK kvs)) ∨ ∃ kvs, H p = some (.dT kvs))) ∨ (T = "set" ∧ ∃ S n, H p = some (.set S n))
  | _ => False
theorem tyV_is {pins : List (Addr × Obj)} {σ : St} {H : Hp} {s : Shared} {T : String} {x : V} {v : Value} (I : Inv X pins σ H s) (r : RelV x v) (ty : tyV X.K T x H) :
    s.TypeIs v T ∧ ∀ a, v = .ref a → ∃ ob, s.heap.get? a = some ob ∧ ob.dict = none := by
  cases x with
  | str z =>
    obtain ⟨t, rfl⟩ := r
    cases (show T = "str" from ty)
    exact ⟨typeIs_str s z t, fun _ e => nomatch e⟩
  | int i =>
    obtain ⟨t, rfl⟩ := r
    cases (show T = "int" from ty)
    exact ⟨typeIs_int s i t, fun _ e => nomatch e⟩
  | ref p =>
    cases r
    rcases ty with ⟨rfl, xs, hq⟩ | ⟨rfl, o, hk, hc, hd⟩ | ⟨rfl, hk⟩ | ⟨rfl, S, n, hk⟩
    · obtain ⟨its, _, pl, _⟩ := I.list hq
      refine ⟨pl.isList.typeIs, fun a e => ?_⟩
      cases e
      obtain ⟨o, n, e, c, hd, _⟩ := pl
      exact ⟨o, e, hd⟩
    · refine ⟨⟨o, I.kIn p o hk, hc⟩, fun a e => ?_⟩
      cases e
      exact ⟨o, I.kIn _ o hk, hd⟩
    · have z : ∃ o, s.heap.get? p = some o ∧ o.ExactDict := by
        rcases hk with ⟨kvs, hk⟩ | ⟨kvs, hk⟩
        · obtain ⟨_, _, _, _, o, _, _, e, ex, _⟩ := I.hok p _ hk
          exact ⟨o, e, ex⟩
        · obtain ⟨_, _, _, _, o, _, _, e, ex, _⟩ := I.hok p _ hk
          exact ⟨o, e, ex⟩
      obtain ⟨o, e, ex⟩ := z
      refine ⟨⟨o, e, ex.1⟩, fun a e2 => ?_⟩
      cases e2
      exact ⟨o, e, ex.2.1⟩
    · obtain ⟨o, _, _, _, e, ex, _⟩ := I.hok p _ hk
      refine ⟨⟨o, e, ex.1⟩, fun a e2 => ?_⟩
      cases e2
      exact ⟨o, e, ex.2.1⟩
  | _ => exact False.elim ty
def tBM (K : PySem.W.Frag) (T : String) (r : V → List V → Hp → VK → Prop) (to : TE) (t : TA) : TE := fun σ H Q => to σ H fun x H1 => tyV K T x H1 ∧ t σ H1 fun xs H2 => r x xs H2 Q
variable {o e : Expr} {es : List Expr} {to : TE} {t : TA} {name : Str} {apos cpos : Pos} {T id : String} {r : V → List V → Hp → VK → Prop}
theorem pe_bm (pa : PlainAttrs T) (slot : Slot T name id) (hty : typeOf (.builtin id) = pure (.type "method_descriptor")) (hm : MtR X id r) (ho : PE X o to) (ha : PA X (e :: es) t)
    (hbase : attributeBase o name X.env (eval o X.env) = eval o X.env := by rfl)
    (hfew : ((backTo cpos (starEach (e :: es) X.env)).all (fun x => !x.1) && (backToKw cpos (keywordEach [] X.env)).all (fun x => x.1.isSome)
      && decide ((e :: es).length + ([] : List Keyword).length + (if ([] : List Keyword).isEmpty then 0 else 1) < 30)) = true := by rfl)
    (hline : (apos.endLine == cpos.line) = true := by rfl) (hs : starEach (e :: es) X.env = (false, eval e X.env) :: starEach es X.env := by rfl) (hplain : (backTo cpos (starEach es X.env)).any (·.1) = false := by rfl) :
    PE X (.Call (.Attribute o name apos) (e :: es) [] cpos) (tBM X.K T r to t) := by
  intro pins s σ H Q I h
  refine wpAny_Call_method_late hbase hfew hline rfl (thn (ho pins s σ H _ I h) fun v s1 ⟨x, H1, I1, r1, ty, q1⟩ => ?_)
  obtain ⟨h1, h2⟩ := tyV_is I1 r1 ty
  refine ⟨T, id, pa, slot, hty, h1, h2, ?_⟩
  have hA := ha cpos pins s1 σ H1 _ I1 q1
  rw [hs] at hA ⊢
  refine Calls.callWith_builtin (by show (false || (backTo cpos (starEach es X.env)).any (·.1)) = false; rw [hplain] <;> rfl) (Calls.evalArgs_plain ?_)
  exact thn hA fun us s2 ⟨vs, H2, I2, r2, q2⟩ => hm pins s2 σ H2 x vs v us Q I2 r1 r2 q2
end
end L2
namespace L2
open PySem PySem.Spec PyProof.Rows
def MtM (X : Cx) (id : String) (r : V → List V → Hp → VK → Prop) : Prop :=
  ∀ (pins : List (Addr × Obj)) (s : Shared) (σ : St) (H : Hp) (x : V) (xs : List V) (v : Value) (us : List Value) (Q : VK), Inv X pins σ H s → RelV x v → Vals xs us → r x xs H Q →
    wpAny (model X.prog X.w) X.A (call (.builtin id) (v :: us)) (EP X pins σ Q) X.xe s
theorem Vals.one : ∀ {x : V} {us : List Value}, Vals [x] us → ∃ u, us = [u] ∧ RelV x u
  | _, _, .cons r .nil => ⟨_, rfl, r⟩
theorem Vals.rep {xs : List V} {us : List Value} (h : Vals xs us) : ∀ k : Nat, Vals (List.replicate k xs).flatten (List.replicate k us).flatten
  | 0 => .nil
  | k + 1 => by
    rw [List.replicate_succ, List.replicate_succ, List.flatten_cons, List.flatten_cons]
    exact Vals.append h (Vals.rep h k)
theorem foldl_rep (its : List Value) : ∀ (k : Nat) (acc : List Value),
    List.foldl (fun x1 x2 => x1 ++ x2) acc.toArray (List.replicate k its.toArray) = (acc ++ (List.replicate k its).flatten).toArray
  | 0, acc => by simp
  | k + 1, acc => by
    have e : acc.toArray ++ its.toArray = (acc ++ its).toArray := by simp
    have e2 : (acc ++ its) ++ (List.replicate k its).flatten = acc ++ (List.replicate (k + 1) its).flatten := by
      rw [List.replicate_succ, List.flatten_cons, List.append_assoc]
    rw [← e2, ← foldl_rep its k (acc ++ its), ← e, List.replicate_succ, List.foldl_cons]
section
variable {X : Cx} {pins : List (Addr × Obj)} {σ : St} {H : Hp} {s : Shared} {l b : Addr} {xs ys zs : List V}
theorem Inv.lset {its its' : List Value} {n : Nat} {f : Array Value → Array Value} {t' : Nat} (I : Inv X pins σ H s) (hH : H l = some (.lst xs))
    (e : s.heap.get? l = some { cls := .type "list", data := .seq its.toArray n }) (hf : f its.toArray = its'.toArray) (hv : Vals ys its') (hz : ys.length ≤ sizeLine) :
    Inv X pins σ (upd H l (.lst ys)) { s with heap := s.heap.update l (Obj.mapSeq f), toks := t' } := by
  have q := PySem.IsL.update e f
  rw [hf] at q
  refine I.write (x := l) (e := l) (by rw [hH]; exact trivial) (.inl rfl) (fun b' u hb hu => (Heap.get?_update_other s.heap (Obj.mapSeq f) (Ne.symm hb)).trans hu) ⟨_, q⟩ ?_
  exact ⟨hz, its', _, hv, q⟩
theorem Inv.lnew {its : List Value} {t' : Nat} (I : Inv X pins σ H s) (hv : Vals ys its) (hz : ys.length ≤ sizeLine) :
    Inv X pins σ (upd H s.heap.objs.size (.lst ys)) { s with heap := s.heap.push { cls := .type "list", data := .seq its.toArray }, toks := t' } :=
  I.laid (fun _ _ q => Heap.get?_push_of_some _ q) (Nat.le_refl _) ⟨hz, its, 0, hv, Heap.get?_push_size _ rfl⟩
theorem Inv.fresh (I : Inv X pins σ H s) : H s.heap.objs.size = none := I.hok.fresh (Nat.le_refl _)
theorem Inv.lstM (I : Inv X pins σ H s) (hH : H l = some (.lst xs)) : xs.length ≤ sizeLine ∧ ∃ (its : List Value) (n : Nat), Vals xs its ∧ xs.length = its.length ∧ s.heap.get? l = some { cls := .type "list", data := .seq its.toArray n } := by
  obtain ⟨z, its, n, r, e⟩ := I.hok l _ hH
  exact ⟨z, its, n, r, r.length, e⟩
theorem notLongL {n : Nat} (h : n ≤ sizeLine) : Builtin.List.listTooLong n = false := by
  unfold Builtin.List.listTooLong
  exact decide_eq_false (by omega)
end
section
variable {X : Cx}
def rAppend : V → List V → Hp → VK → Prop := fun x vs H Q => ∃ l xs y, x = .ref l ∧ vs = [y] ∧ H l = some (.lst xs) ∧ xs.length < sizeLine ∧ Q .non (upd H l (.lst (xs ++ [y])))
theorem mt_append : MtM X "list.append" rAppend := by
  intro pins s σ H x vs v us Q I rx rv h
  obtain ⟨l, xs, y, rfl, rfl, hH, hz, q⟩ := h
  cases rx
  obtain ⟨u, rfl, ru⟩ := rv.one
  obtain ⟨z, its, n, r, hl, e⟩ := I.lstM hH
  refine call_meets F.slot_list_append ⟨_, e, rfl⟩ F.entry_list_append (F.args_list_append_2 _ _) (PySem.list_append l its.toArray n u (by rw [List.size_toArray]; omega)) ⟨e, ?_⟩
  refine ⟨.non, _, I.lset (its' := its ++ [u]) hH e (by simp) (r.append (.cons ru .nil)) ?_, rfl, q⟩
  rw [List.length_append, List.length_singleton]
  omega
def rExtend : V → List V → Hp → VK → Prop := fun x vs H Q => ∃ l b xs zs, x = .ref l ∧ vs = [.ref b] ∧ H l = some (.lst xs) ∧ H b = some (.lst zs) ∧ xs.length + zs.length ≤ sizeLine ∧ Q .non (upd H l (.lst (xs ++ zs)))
theorem mt_extend : MtM X "list.extend" rExtend := by
  intro pins s σ H x vs v us Q I rx rv h
  obtain ⟨l, b, xs, zs, rfl, rfl, hH, hB, hz, q⟩ := h
  cases rx
  obtain ⟨u, rfl, ru⟩ := rv.one
  cases ru
  obtain ⟨z, its, n, r, hl, e⟩ := I.lstM hH
  obtain ⟨z2, its2, n2, r2, hl2, e2⟩ := I.lstM hB
  have hsz : its.toArray.size + its2.toArray.size ≤ sizeLine := by rw [List.size_toArray, List.size_toArray]; omega
  have hlong : ¬ (!its.toArray.isEmpty && Builtin.List.listTooLong (its.toArray.size + its2.toArray.size)) = true := by
    rw [notLongL hsz, Bool.and_false]
    exact Bool.false_ne_true
  refine call_meets F.slot_list_extend ⟨_, e, rfl⟩ F.entry_list_extend (F.args_list_extend_2 _ _)
    (AutoSeq1.list_extend_list_list_0 l its.toArray n b its2.toArray n2 hlong (by rw [List.size_toArray]; omega) (by omega)) ⟨e, e2, ?_⟩
  refine ⟨.non, _, I.lset (its' := its ++ its2) hH e (by simp) (r.append r2) ?_, rfl, q⟩
  rw [List.length_append]
  omega
def rCat : R2 := fun x y H Q => ∃ l b xs zs, x = .ref l ∧ y = .ref b ∧ H l = some (.lst xs) ∧ H b = some (.lst zs) ∧ xs.length + zs.length ≤ sizeLine ∧ ∀ p, H p = none → Q (.ref p) (upd H p (.lst (xs ++ zs)))
theorem op_cat : OpR X (binaryOp .Add) rCat := by
  intro pins s σ H x y v u Q I rx ry h
  obtain ⟨l, b, xs, zs, rfl, rfl, hH, hB, hz, q⟩ := h
  cases rx
  cases ry
  obtain ⟨z, its, n, r, hl, e⟩ := I.lstM hH
  obtain ⟨z2, its2, n2, r2, hl2, e2⟩ := I.lstM hB
  refine PySem.P.add_list e e2 ?_ (by rw [List.size_toArray, List.size_toArray]; omega)
  have ea : its.toArray ++ its2.toArray = (its ++ its2).toArray := by simp
  rw [ea]
  exact ⟨.ref _, _, I.lnew (t' := s.toks) (r.append r2) (by rw [List.length_append]; omega), rfl, q _ I.fresh⟩
def rRep : R2 := fun x y H Q => ∃ l k xs, x = .ref l ∧ y = .int k ∧ H l = some (.lst xs) ∧ -(2 ^ 63) ≤ k ∧ k < 2 ^ 63 ∧ xs.length * k.toNat ≤ sizeLine ∧
  ∀ p, H p = none → Q (.ref p) (upd H p (.lst (List.replicate k.toNat xs).flatten))
theorem len_rep {α : Type} (xs : List α) (k : Nat) : (List.replicate k xs).flatten.length = k * xs.length := by
  induction k with
  | zero => simp
  | succ k ih => rw [List.replicate_succ, List.flatten_cons, List.length_append, ih, Nat.succ_mul, Nat.add_comm]
theorem op_rep : OpR X (binaryOp .Mult) rRep := by
  intro pins s σ H x y v u Q I rx ry h
  obtain ⟨l, k, xs, rfl, rfl, hH, h1, h2, hz, q⟩ := h
  cases rx
  obtain ⟨t, rfl⟩ := ry
  obtain ⟨z, its, n, r, hl, e⟩ := I.lstM hH
  have hlen : its.toArray.size * k.toNat ≤ sizeLine := by rw [List.size_toArray, ← hl]; exact hz
  have hcap : ¬ its.toArray.size * k.toNat > (2 ^ 63 - 1) / 8 := by
    have : (sizeLine : Nat) ≤ (2 ^ 63 - 1) / 8 := by decide
    omega
  have hfit : ¬ (!Builtin.List.listFitsIndex k) = true := by
    rw [fitsIndex_both h1 h2]
    exact Bool.false_ne_true
  have hlong : ¬ Builtin.List.listTooLong (its.toArray.size * k.toNat) = true := by
    rw [notLongL hlen]
    exact Bool.false_ne_true
  have hnew : List.foldl (fun x1 x2 => x1 ++ x2) #[] (List.replicate (if its.toArray.isEmpty = true then 0 else k.toNat) its.toArray) = (List.replicate k.toNat its).flatten.toArray := by
    have f0 : ∀ m : Nat, List.foldl (fun x1 x2 => x1 ++ x2) #[] (List.replicate m its.toArray) = (List.replicate m its).flatten.toArray := fun m => by
      have := foldl_rep its m []
      rw [List.nil_append] at this
      exact this
    rw [f0]
    cases its with
    | nil => simp
    | cons a r' => rw [if_neg (by simp)]
  refine wpAny_binaryOp_repeat_ref (T := "list") (U := "int") (by decide) ⟨_, e, rfl⟩ (fun s' => typeIs_int s' k t) noFill_list_mul F.fills_int_mul F.slot_int_rmul repeat_list F.slot_int_index.lookup
    (call_meets F.slot_int_rmul (typeIs_int s k t) F.entry_int_rmul (F.args_int_rmul_2 _ _) (int___rmul___int_list k t l its.toArray n)
      ⟨e, rfl, ⟨_, e, rfl⟩, call_meets F.slot_list_mul ⟨_, e, rfl⟩ F.entry_list_mul (F.args_list_mul_2 _ _) (AutoListH.list___mul___list_int_3 l its.toArray n k t hfit hcap hlong) ⟨e, ?_⟩⟩)
  rw [hnew]
  exact ⟨.ref _, _, I.lnew (t' := s.toks) (r.rep k.toNat) (by rw [len_rep, Nat.mul_comm]; exact hz), rfl, q _ I.fresh⟩
end
end L2
namespace L2
open PySem PySem.Spec PyProof.Rows
theorem Vals.bls : ∀ {bs : List Bool} {us : List Value}, Vals (bs.map V.bl) us → us = bs.map Value.bool
  | [], us, h => by
    rw [List.map_nil] at h
    cases h
    rfl
  | b :: bs, us, h => by
    rw [List.map_cons] at h
    cases h with
    | cons r t =>
      cases r
      rw [Vals.bls t, List.map_cons]
theorem Vals.ref1 {a : Addr} {us : List Value} (r : Vals [V.ref a] us) : us = [Value.ref a] := by
  cases r with
  | cons r t =>
    cases t
    cases r
    rfl
theorem iter_any {prog : Program} {w : World} {A : Around} {E : Value → Shared → Prop} {s : Shared} {l : Addr} {items : Array Value} {Q : Value → Shared → Prop} (hl : s.heap.IsList l items)
    (h : ∀ s₂ : Shared, s₂ = { s with heap := s.heap.push { cls := .type "list_iterator", data := .fields #[.ref l, .int 0 0] } } →
      (s₂.heap.IsListIter s.heap.objs.size l 0 ∧ s₂.heap.IsList l items) → l ≠ s.heap.objs.size → Q (.ref s.heap.objs.size) s₂) : wpAny (model prog w) A (pyIter (.ref l)) Q E s := by
  have hlt : l < s.heap.objs.size := by obtain ⟨_, e, _⟩ := hl; exact Heap.lt_size e
  exact wpAny_pyIter_list hl (h _ rfl ⟨⟨_, Heap.get?_push_size _ rfl, rfl, rfl⟩, hl.push _⟩ (Nat.ne_of_lt hlt))
theorem truth_bools {prog : Program} {w : World} {A : Around} {bs : List Bool} {its : List Value} (e : its = bs.map Value.bool) :
    TruthOf prog w A (fun i v => its.toArray[i]? = some v) (fun i => bs.getD i false) := fun i v s Q E hv hq => by
  have hv' : its[i]? = some v := by simpa using hv
  rw [e, List.getElem?_map] at hv'
  obtain ⟨b, hb, rfl⟩ := Option.map_eq_some_iff.mp hv'
  have hg : bs.getD i false = b := by rw [List.getD_eq_getElem?_getD, hb] <;> rfl
  have hq' : Q (bs.getD i false) s := hq
  rw [hg] at hq'
  exact wpAny_truthy_bool hq'
theorem any_range : ∀ bs : List Bool, (List.range bs.length).any (fun i => bs.getD i false) = bs.any id
  | [] => rfl
  | b :: bs => by
    rw [List.length_cons, List.range_succ_eq_map, List.any_cons, List.any_map, List.any_cons, ← any_range bs]
    all_goals rfl
theorem all_range : ∀ bs : List Bool, (List.range bs.length).all (fun i => bs.getD i false) = bs.all id
  | [] => rfl
  | b :: bs => by
    rw [List.length_cons, List.range_succ_eq_map, List.all_cons, List.all_map, List.all_cons, ← all_range bs]
    all_goals rfl
section
variable {X : Cx}
def rAll (K : PySem.W.Frag) : List V → Hp → VK → Prop := fun vs H Q => ∃ (a : Addr) (bs : List Bool), vs = [V.ref a] ∧ SqL K H a (bs.map V.bl) ∧ Q (.bl (bs.all id)) H
theorem cr_all (hc : X.calm = true) : CallR X (.builtin "all") (rAll X.K) := by
  intro pins s σ H vs us Q I r h
  obtain ⟨a, bs, rfl, hs, q⟩ := h
  obtain ⟨its, rv, hl, _⟩ := I.list hs
  rw [Vals.ref1 r]
  have hb := rv.bls
  refine call_all_walk (iter_any hl.isList fun s₂ e2 st hne => ?_)
  subst e2
  refine ⟨_, _, _, _, _, _, _, rfl, Walks.list (A := X.A.in1) (I.ok.hd hc) _ a hne its.toArray, st, truth_bools hb, fun h' tk hk => ?_⟩
  refine ⟨.bl _, H, I.kept fun b o eo => hk b o (fun hmem => ?_) (Heap.get?_push_of_some _ eo), ?_, q⟩
  · rcases List.mem_cons.mp hmem with e1 | hmem
    · exact absurd (e1 ▸ Heap.lt_size eo) (Nat.lt_irrefl _)
    · cases hmem
  · show Value.bool _ = Value.bool _
    rw [← all_range, hb, List.size_toArray, List.length_map]
end
mutual
inductive Dp (K : PySem.W.Frag) (H : Hp) : V → PyData → Prop
  | non : Dp K H .non .none
  | bl (b : Bool) : Dp K H (.bl b) (.bool b)
  | int (i : Int) : Dp K H (.int i) (.int i)
  | str (x : Str) : Dp K H (.str x) (.str x)
  | lst {a : Addr} {xs : List V} {ds : List PyData} : SqL K H a xs → DpAll K H xs ds → Dp K H (.ref a) (.list ds)
  | tup {a : Addr} {xs : List V} {ds : List PyData} : SqT K H a xs → DpAll K H xs ds → Dp K H (.ref a) (.tuple ds)
inductive DpAll (K : PySem.W.Frag) (H : Hp) : List V → List PyData → Prop
  | nil : DpAll K H [] []
  | cons {v : V} {vs : List V} {d : PyData} {ds : List PyData} : Dp K H v d → DpAll K H vs ds → DpAll K H (v :: vs) (d :: ds)
end
section
variable {X : Cx} {pins : List (Addr × Obj)} {σ : St} {H : Hp} {s : Shared}
mutual
theorem Dp.reads (I : Inv X pins σ H s) : ∀ (d : PyData) (v : V) (u : Value), Dp X.K H v d → RelV v u → ∃ as, Reads s.heap u d as
  | .none, _, _, h, r => by
    cases h
    cases r
    exact ⟨_, Reads.none⟩
  | .bool b, _, _, h, r => by
    cases h
    cases r
    exact ⟨_, Reads.bool b⟩
  | .int i, _, _, h, r => by
    cases h
    obtain ⟨t, rfl⟩ := r
    exact ⟨_, Reads.int i t⟩
  | .str x, _, _, h, r => by
    cases h
    obtain ⟨t, rfl⟩ := r
    exact ⟨_, Reads.str x t⟩
  | .list ds, _, _, h, r => by
    cases h with
    | lst hs ha =>
      cases r
      obtain ⟨its, rv, ⟨o, n, ho, hc, _, hd⟩, _⟩ := I.list hs
      obtain ⟨as, hr⟩ := Dp.readsAll I ds _ its ha rv
      exact ⟨_, Reads.list ho hc hd hr⟩
  | .tuple ds, _, _, h, r => by
    cases h with
    | tup hs ha =>
      cases r
      obtain ⟨its, rv, ⟨o, ho, hc, n, hd⟩, _⟩ := I.tuple hs
      obtain ⟨as, hr⟩ := Dp.readsAll I ds _ its ha rv
      exact ⟨_, Reads.tuple ho hc hd hr⟩
  | .dict _, _, _, h, _ => by cases h
theorem Dp.readsAll (I : Inv X pins σ H s) : ∀ (ds : List PyData) (vs : List V) (us : List Value), DpAll X.K H vs ds → Vals vs us → ∃ as, ReadsAll s.heap us ds as
  | [], _, _, h, r => by
    cases h
    cases r
    exact ⟨_, ReadsAll.nil⟩
  | d :: ds, _, _, h, r => by
    cases h with
    | cons h1 h2 =>
      cases r with
      | cons r1 r2 =>
        obtain ⟨as, q1⟩ := Dp.reads I d _ _ h1 r1
        obtain ⟨bs, q2⟩ := Dp.readsAll I ds _ _ h2 r2
        exact ⟨_, ReadsAll.cons q1 q2⟩
end
end
section
variable {X : Cx}
def rNeD (K : PySem.W.Frag) : R2 := fun x y H Q => ∃ d e, Dp K H x d ∧ Dp K H y e ∧ SeqAt.shaped d = true ∧ SeqAt.shaped e = true ∧ Q (.bl (!PyData.eqv d e)) H
theorem op_neD (hu : X.A.units + 64 < cLine) : OpR X (compareOp .NotEq) (rNeD X.K) := by
  intro pins s σ H x y v u Q I rx ry h
  obtain ⟨d, e, hd, he, sd, se, q⟩ := h
  obtain ⟨as, r1⟩ := Dp.reads I d x v hd rx
  obtain ⟨bs, r2⟩ := Dp.reads I e y u he ry
  exact SeqAt.compareNe_shaped r1 r2 sd se hu ⟨.bl _, H, I, rfl, q⟩
end
end L2
namespace L2
open PySem PySem.Spec PyProof.Rows
abbrev CellAt (h : Heap) (c : Addr) (v : Option Value) : Prop := h.IsCell c v
def relS (scope sc : Scope) : Scope :=
  { scope with names := scope.names.map fun (n, k) => if (k == .free && sc.kind == .function && sc.names.lookup n == some .cell) then (n, .cell) else (n, k) }
def cloFrom (cells : List (Str × Addr)) : List (Str × NameKind) → List (Str × Addr) → List (Str × Addr)
  | [], acc => acc
  | (n, k) :: r, acc => if k == .free then cloFrom cells r ((n, (cells.lookup n).getD 0) :: acc) else cloFrom cells r acc
theorem closure_loop (env : Env) (f : Str × NameKind → List (Str × Addr) → Sem (ForInStep (List (Str × Addr))))
    (hf : ∀ n k c, f (n, k) c = if k == .free then (do let a ← cellOf env n; pure (.yield ((n, a) :: c))) else pure (.yield c)) :
    ∀ (names : List (Str × NameKind)) (acc : List (Str × Addr)), (∀ y ∈ names, y.2 = .free → ∃ c, env.cells.lookup y.1 = some c) → forIn names acc f = pure (cloFrom env.cells names acc)
  | [], acc, _ => by rw [List.forIn_nil]; rfl
  | (n, k) :: r, acc, h => by
    rw [List.forIn_cons, hf]
    have ih := fun acc => closure_loop env f hf r acc fun y hy => h y (List.mem_cons_of_mem _ hy)
    unfold cloFrom
    by_cases hk : (k == NameKind.free) = true
    · rw [if_pos hk, if_pos hk]
      obtain ⟨c, hc⟩ := h (n, k) List.mem_cons_self (by simpa using hk)
      have e : cellOf env n = pure c := by unfold cellOf; rw [hc]
      rw [e]
      have e2 : (env.cells.lookup n).getD 0 = c := by rw [hc]; rfl
      rw [e2]
      exact ih _
    · rw [if_neg hk, if_neg hk]
      exact ih _
theorem closure_ok {scope : Scope} {env : Env} (h : ∀ y ∈ scope.names, y.2 = .free → ∃ c, env.cells.lookup y.1 = some c) : closureFor scope env = pure (cloFrom env.cells scope.names []) := by
  simp only [closureFor]
  rw [closure_loop env _ (fun n k c => rfl) scope.names [] h]
  rfl
theorem mem_lookup {α : Type} : ∀ {l : List (Str × α)} {n : Str} {c : α}, (n, c) ∈ l → ∃ c', l.lookup n = some c'
  | (k, v) :: r, n, c, h => by
    rw [List.lookup_cons]
    cases hb : n == k with
    | true => exact ⟨_, rfl⟩
    | false =>
      rcases List.mem_cons.mp h with e | h
      · cases e; simp at hb
      · exact mem_lookup h
theorem cloFrom_mem {cells : List (Str × Addr)} : ∀ {names : List (Str × NameKind)} {acc : List (Str × Addr)} {n : Str} {c : Addr}, (n, c) ∈ cloFrom cells names acc → (n, c) ∈ acc ∨ ((n, .free) ∈ names ∧ c = (cells.lookup n).getD 0)
  | [], _, _, _, h => .inl h
  | (m, k) :: r, acc, n, c, h => by
    unfold cloFrom at h
    split at h
    · rename_i hk
      have hk : k = .free := by simpa using hk
      rcases cloFrom_mem h with h | ⟨h1, h2⟩
      · rcases List.mem_cons.mp h with e | h
        · cases e; exact .inr ⟨hk ▸ List.mem_cons_self, rfl⟩
        · exact .inl h
      · exact .inr ⟨List.mem_cons_of_mem _ h1, h2⟩
    · rcases cloFrom_mem h with h | ⟨h1, h2⟩
      · exact .inl h
      · exact .inr ⟨List.mem_cons_of_mem _ h1, h2⟩
theorem cloFrom_acc {cells : List (Str × Addr)} : ∀ {names : List (Str × NameKind)} {acc : List (Str × Addr)} {p : Str × Addr}, p ∈ acc → p ∈ cloFrom cells names acc
  | [], _, _, h => h
  | (m, k) :: r, acc, p, h => by
    unfold cloFrom
    split
    · exact cloFrom_acc (List.mem_cons_of_mem _ h)
    · exact cloFrom_acc h
theorem cloFrom_has {cells : List (Str × Addr)} : ∀ {names : List (Str × NameKind)} {acc : List (Str × Addr)} {n : Str}, (n, .free) ∈ names → (n, (cells.lookup n).getD 0) ∈ cloFrom cells names acc
  | (m, k) :: r, acc, n, h => by
    unfold cloFrom
    rcases List.mem_cons.mp h with e | h
    · cases e
      exact cloFrom_acc List.mem_cons_self
    · split
      · exact cloFrom_has h
      · exact cloFrom_has h
theorem cells_mem : ∀ {names : List (Str × NameKind)} {h : Heap} {acc : List (Str × Addr)} {x : Str} {c : Addr}, (x, c) ∈ cellsFrom h.objs.size names acc →
    (x, c) ∈ acc ∨ ((x, .cell) ∈ names ∧ h.objs.size ≤ c ∧ CellAt (pushCells h names) c none)
  | [], _, _, _, _, h => .inl h
  | (n, k) :: r, h, acc, x, c, hm => by
    unfold cellsFrom at hm
    unfold pushCells
    split at hm
    · rename_i hk
      rw [if_pos hk]
      have hk : k = .cell := by simpa using hk
      rw [← Heap.size_push h { cls := .type "cell", data := .cell none }] at hm
      rcases cells_mem hm with hm | ⟨h1, h2, h3⟩
      · rcases List.mem_cons.mp hm with e | hm
        · cases e
          exact .inr ⟨hk ▸ List.mem_cons_self, Nat.le_refl _, _, pushCells_keeps r _ _ _ (Heap.get?_push_size _ rfl), rfl⟩
        · exact .inl hm
      · rw [Heap.size_push] at h2
        exact .inr ⟨List.mem_cons_of_mem _ h1, Nat.le_of_succ_le h2, h3⟩
    · rename_i hk
      rw [if_neg hk]
      rcases cells_mem hm with hm | ⟨h1, h2, h3⟩
      · exact .inl hm
      · exact .inr ⟨List.mem_cons_of_mem _ h1, h2, h3⟩
theorem cells_acc : ∀ {names : List (Str × NameKind)} {n : Nat} {acc : List (Str × Addr)} {p : Str × Addr}, p ∈ acc → p ∈ cellsFrom n names acc
  | [], _, _, _, h => h
  | (m, k) :: r, n, acc, p, h => by
    unfold cellsFrom
    split
    · exact cells_acc (List.mem_cons_of_mem _ h)
    · exact cells_acc h
theorem cells_has : ∀ {names : List (Str × NameKind)} {n : Nat} {acc : List (Str × Addr)} {x : Str}, (x, .cell) ∈ names → ∃ c, (x, c) ∈ cellsFrom n names acc
  | (m, k) :: r, n, acc, x, h => by
    unfold cellsFrom
    rcases List.mem_cons.mp h with e | h
    · cases e
      exact ⟨n, cells_acc List.mem_cons_self⟩
    · split
      · exact cells_has h
      · exact cells_has h
theorem cells_inj : ∀ {names : List (Str × NameKind)} {h : Heap} {acc : List (Str × Addr)} {x y : Str} {c : Addr}, (∀ p ∈ acc, p.2 < h.objs.size) → (∀ x y c, (x, c) ∈ acc → (y, c) ∈ acc → x = y) →
    (x, c) ∈ cellsFrom h.objs.size names acc → (y, c) ∈ cellsFrom h.objs.size names acc → x = y
  | [], _, _, _, _, _, _, hi, h1, h2 => hi _ _ _ h1 h2
  | (n, k) :: r, h, acc, x, y, c, hl, hi, h1, h2 => by
    unfold cellsFrom at h1 h2
    split at h1
    · rename_i hk
      rw [if_pos hk] at h2
      rw [← Heap.size_push h { cls := .type "cell", data := .cell none }] at h1 h2
      refine cells_inj (h := h.push _) (fun p hp => ?_) (fun x y c a b => ?_) h1 h2
      · rw [Heap.size_push]
        rcases List.mem_cons.mp hp with rfl | hp
        · exact Nat.lt_succ_self _
        · exact Nat.lt_succ_of_lt (hl p hp)
      · rcases List.mem_cons.mp a with e | a <;> rcases List.mem_cons.mp b with e' | b
        · cases e; cases e'; rfl
        · cases e; exact absurd (hl _ b) (Nat.lt_irrefl _)
        · cases e'; exact absurd (hl _ a) (Nat.lt_irrefl _)
        · exact hi _ _ _ a b
    · rename_i hk
      rw [if_neg hk] at h2
      exact cells_inj hl hi h1 h2
theorem newEnv_comp {M : Model} {A : Around} {E : Value → Shared → Prop} {s : Shared} {scope : Scope} {globals : Addr} {closure : List (Str × Addr)} {qual : Str} {func : Option Addr} {code : Value} {around : Env} {builtins : Addr} {Q : Env → Shared → Prop}
    (h : Q (newEnv scope s.heap.objs.size globals (cellsFrom (s.heap.objs.size + 1) scope.names closure) qual func code (some around) builtins)
      { s with heap := pushCells (s.heap.push { cls := .type "dict", data := .dict #[] }) scope.names }) :
    wpAny M A (newFunctionEnv scope globals closure [] qual func code (some around) builtins) Q E s := by
  simp only [newFunctionEnv, Option.isSome_some, if_true]
  refine wpAny_bind (wpAny_alloc ?_)
  refine wpAny_bind (wpAny_layCells _ (fun n k c => rfl) scope.names closure _ _ ?_)
  rw [show ({ s with heap := s.heap.push { cls := .type "dict", data := .dict #[] } } : Shared).heap.objs.size = s.heap.objs.size + 1 from Heap.size_push ..]
  rw [List.forIn_nil]
  exact wpAny_bind (wpAny_pure (wpAny_pure h))
theorem lookup_relS {sc : Scope} : ∀ {names : List (Str × NameKind)} {x : Str} {k : NameKind},
    (names.map fun (n, k) => if (k == NameKind.free && sc.kind == .function && sc.names.lookup n == some .cell) then (n, NameKind.cell) else (n, k)).lookup x = some k →
    ∃ k', names.lookup x = some k' ∧ (k = k' ∨ (k' = .free ∧ k = .cell))
  | [], _, _, h => by simp at h
  | (n, k₀) :: r, x, k, h => by
    have ih := @lookup_relS sc r x k
    have h' : List.lookup x ((if (k₀ == NameKind.free && sc.kind == .function && sc.names.lookup n == some .cell) = true then (n, NameKind.cell) else (n, k₀)) :: (r.map _)) = some k := h
    cases hx : x == n with
    | true =>
      simp only [List.lookup_cons, hx]
      by_cases hc : (k₀ == NameKind.free && sc.kind == .function && sc.names.lookup n == some .cell) = true
      · rw [if_pos hc] at h'
        simp only [List.lookup_cons, hx] at h'
        cases h'
        simp only [Bool.and_eq_true, beq_iff_eq] at hc
        exact ⟨k₀, rfl, .inr ⟨hc.1.1, rfl⟩⟩
      · rw [if_neg hc] at h'
        simp only [List.lookup_cons, hx] at h'
        cases h'
        exact ⟨_, rfl, .inl rfl⟩
    | false =>
      simp only [List.lookup_cons, hx]
      by_cases hc : (k₀ == NameKind.free && sc.kind == .function && sc.names.lookup n == some .cell) = true
      · rw [if_pos hc] at h'
        simp only [List.lookup_cons, hx] at h'
        exact ih h'
      · rw [if_neg hc] at h'
        simp only [List.lookup_cons, hx] at h'
        exact ih h'
structure BlkOk (N : List Str) (sc scope : Scope) (own : List (Str × Nat)) : Prop where
  kind : scope.kind = .function
  uniq : ∀ y ∈ scope.names, scope.names.lookup y.1 = some y.2
  ix : ∀ p ∈ own, N[p.2]? = some p.1
  free : ∀ y ∈ scope.names, y.2 = .free → sc.names.lookup y.1 = some .cell ∨ sc.names.lookup y.1 = some .free
  own : ∀ y ∈ scope.names, y.2 = .local ∨ y.2 = .cell → y.1 ∈ own.map (·.1) ∨ y.1 ∉ N
def wipe (σ : St) : List Nat → St
  | [] => σ
  | v :: vs => (wipe σ vs).set v none
theorem wipe_length (σ : St) : ∀ vs : List Nat, (wipe σ vs).length = σ.length
  | [] => rfl
  | v :: vs => by unfold wipe; rw [List.length_set, wipe_length σ vs]
theorem wipe_some {σ : St} {i : Nat} {x : V} : ∀ {vs : List Nat}, (wipe σ vs)[i]? = some (some x) → σ[i]? = some (some x) ∧ i ∉ vs
  | [], h => ⟨h, by simp⟩
  | v :: vs, h => by
    unfold wipe at h
    by_cases hi : v = i
    · subst hi
      by_cases hv : v < (wipe σ vs).length
      · rw [List.getElem?_set_self hv] at h; cases h
      · rw [List.getElem?_eq_none (by simpa using hv)] at h; cases h
    · rw [List.getElem?_set_ne hi] at h
      obtain ⟨h1, h2⟩ := wipe_some h
      exact ⟨h1, by simp only [List.mem_cons, not_or]; exact ⟨fun e => hi e.symm, h2⟩⟩
abbrev Cx.blk (X : Cx) (s : Shared) (H : Hp) (scope : Scope) (cenv : Env) (fp : List Addr) : Cx := { X with s_0 := s, H_0 := H, env := cenv, outer := X.stack, ex := fp, fn := fun x => scope.names.lookup x == some .cell, pn := [], xe := fun _ _ => False }
section
variable {X : Cx} {pins : List (Addr × Obj)} {σ : St} {H : Hp} {s : Shared}
theorem block_start {scope : Scope} {own : List (Str × Nat)} {fp : List Addr} (I : Inv X pins σ H s) (ok : BlkOk X.N X.env.scope scope own) (hN : X.N.Nodup) (hfp : ∀ b ∈ fp, FpOk X pins H b ∧ b < s.heap.objs.size) :
    Inv (X.blk s H scope (compEnvC scope (cellsFrom (s.heap.objs.size + 1) scope.names (cloFrom X.env.cells scope.names [])) s.heap.objs.size X.env) fp) [] (wipe σ (own.map (·.2))) H { s with heap := pushCells (s.heap.push { cls := .type "dict", data := .dict #[] }) scope.names } := by
  have hfree : ∀ y ∈ scope.names, y.2 = .free → ∃ c, X.env.cells.lookup y.1 = some c := fun y hy e => by
    rcases ok.free y hy e with k | k
    · exact I.ok.has _ (.inl k)
    · exact I.ok.has _ (.inr k)
  generalize hcenv : compEnvC scope (cellsFrom (s.heap.objs.size + 1) scope.names (cloFrom X.env.cells scope.names [])) s.heap.objs.size X.env = cenv
  have kp : ∀ b o, s.heap.get? b = some o → (pushCells (s.heap.push { cls := .type "dict", data := .dict #[] }) scope.names).get? b = some o := fun b o e => pushCells_keeps _ _ _ _ (Heap.get?_push_of_some _ e)
  have hL : cenv.locals = s.heap.objs.size := by rw [← hcenv]; rfl
  have hcl : cenv.cells = cellsFrom (s.heap.objs.size + 1) scope.names (cloFrom X.env.cells scope.names []) := by rw [← hcenv]; rfl
  have hsc : cenv.scope = relS scope X.env.scope := by rw [← hcenv]; rfl
  rw [← Heap.size_push s.heap { cls := .type "dict", data := .dict #[] }] at hcl
  have cm : ∀ {y c}, (y, c) ∈ cloFrom X.env.cells scope.names [] → X.env.cells.lookup y = some c ∧ c < s.heap.objs.size := fun {y c} hm => by
    rcases cloFrom_mem hm with hm | ⟨h1, rfl⟩
    · cases hm
    · obtain ⟨c, hc⟩ := hfree _ h1 rfl
      rw [hc]
      obtain ⟨w, z⟩ := I.cell _ _ hc
      exact ⟨rfl, z.lt⟩
  have mem : ∀ {y c}, cenv.cells.lookup y = some c → (X.env.cells.lookup y = some c ∧ c < s.heap.objs.size) ∨ (s.heap.objs.size + 1 ≤ c ∧ CellAt (pushCells (s.heap.push { cls := .type "dict", data := .dict #[] }) scope.names) c none) := fun {y c} e => by
    rw [hcl] at e
    rcases cells_mem (PySem.mem_of_lookup e) with hm | ⟨_, h2, h3⟩
    · exact .inl (cm hm)
    · rw [Heap.size_push] at h2; exact .inr ⟨h2, h3⟩
  have look : ∀ {y}, scope.names.lookup y = some .free → ∃ c, cenv.cells.lookup y = some c ∧ X.env.cells.lookup y = some c := fun {y} hl => by
    have hy : (y, NameKind.free) ∈ scope.names := PySem.mem_of_lookup hl
    obtain ⟨c', e'⟩ := mem_lookup (cells_acc (names := scope.names) (n := (s.heap.push { cls := .type "dict", data := .dict #[] }).objs.size) (cloFrom_has (cells := X.env.cells) (acc := []) hy))
    rw [← hcl] at e'
    refine ⟨c', e', ?_⟩
    rw [hcl] at e'
    rcases cells_mem (PySem.mem_of_lookup e') with hm | ⟨h1, _, _⟩
    · exact (cm hm).1
    · have := ok.uniq _ h1
      rw [hl] at this; cases this
  have okB : (X.blk s H scope cenv fp).Ok := by
    refine ⟨I.ok.mod, by show cenv.scope.kind = _; rw [hsc]; exact ok.kind, by show cenv.globals = _; rw [← hcenv]; exact I.ok.glob, by show cenv.builtins = _; rw [← hcenv]; exact I.ok.blt, by show s.heap.objs.size ≤ cenv.locals; rw [hL]; exact Nat.le_refl _,
      fun y z c e1 e2 => ?_, fun y hy => ?_, fun y c z e => ?_, I.ok.hd, I.ok.frames, .inl rfl, fun b hb => ⟨?_, fun y c e z => ?_⟩, I.bs, Nat.le_trans I.ok.bsz I.sz, fun b o e hb => ?_, fun b hb z => ?_, I.stack, I.stkFree⟩
    · have e1 : cenv.cells.lookup y = some c := e1
      have e2 : cenv.cells.lookup z = some c := e2
      rw [hcl] at e1 e2
      refine cells_inj (fun p hp => ?_) (fun y z c a b => I.ok.inj y z c (cm a).1 (cm b).1) (PySem.mem_of_lookup e1) (PySem.mem_of_lookup e2)
      rw [Heap.size_push]
      exact Nat.lt_succ_of_lt (cm (y := p.1) (c := p.2) hp).2
    · show ∃ c, cenv.cells.lookup y = some c
      have key : ∀ k, cenv.kindOf y = some k → (k = .cell ∨ k = .free) → ∃ c, cenv.cells.lookup y = some c := fun k hk hk' => by
        unfold Env.kindOf at hk
        rw [hsc] at hk
        obtain ⟨k', e, r⟩ := lookup_relS hk
        have : k' = .cell ∨ k' = .free := by
          rcases r with rfl | ⟨rfl, _⟩
          · exact hk'
          · exact .inr rfl
        rcases this with rfl | rfl
        · obtain ⟨c, hm⟩ := cells_has (n := (s.heap.push { cls := .type "dict", data := .dict #[] }).objs.size) (acc := cloFrom X.env.cells scope.names []) (PySem.mem_of_lookup e)
          obtain ⟨c', e'⟩ := mem_lookup hm
          exact ⟨c', by rw [hcl]; exact e'⟩
        · obtain ⟨c, h1, _⟩ := look e
          exact ⟨c, h1⟩
      rcases hy with hy | hy
      · exact key _ hy (.inl rfl)
      · exact key _ hy (.inr rfl)
    · have z : (scope.names.lookup y == some NameKind.cell) = true := z
      have z : scope.names.lookup y = some .cell := by simpa using z
      have e : cenv.cells.lookup y = some c := e
      rw [hcl] at e
      rcases cells_mem (PySem.mem_of_lookup e) with hm | ⟨_, h2, _⟩
      · rcases cloFrom_mem hm with hm | ⟨h1, _⟩
        · cases hm
        · have q := ok.uniq _ h1
          rw [z] at q; cases q
      · rw [Heap.size_push] at h2
        exact Nat.le_of_succ_le h2
    · show b ≠ cenv.locals
      rw [hL]; exact Nat.ne_of_lt (hfp b hb).2
    · have e : cenv.cells.lookup y = some c := e
      rcases mem e with ⟨h1, _⟩ | ⟨h1, _⟩
      · exact (hfp b hb).1.2.2.2.2.1 y c h1 z
      · have h2 : s.heap.objs.size + 1 ≤ b := by rw [← z]; exact h1
        exact absurd (Nat.lt_of_lt_of_le (hfp b hb).2 (Nat.le_of_succ_le h2)) (Nat.lt_irrefl _)
    · rcases (hfp b hb).1.2.2.2.1 with z | z
      · exact I.ok.noex b o e z
      · exact absurd (Nat.lt_of_lt_of_le (Heap.lt_size e) (Nat.le_trans I.ok.bsz z)) (Nat.lt_irrefl _)
    · rcases List.mem_cons.mp (I.stkSub b z) with z | z
      · exact (hfp b hb).1.2.1 z
      · exact (hfp b hb).1.2.2.1 z
  refine ⟨okB, rfl, I.bare, Un.kept kp, ⟨fun _ => none, ?_, fun i y av e1 e2 e3 => ?_⟩, fun y c e => ?_, ?_, fun y c e => ?_, fun p hp => ?_, I.hok.kept kp, by rw [wipe_length]; exact I.len⟩
  · show Heap.Ns _ cenv.locals _
    rw [hL]
    exact Heap.Ns.keeps (Heap.Ns.new ..) fun b o e => pushCells_keeps _ _ _ _ e
  · obtain ⟨e2, hne⟩ := wipe_some e2
    have hfr : scope.names.lookup y = some .free ∧ (cenv.kindOf y = some .cell ∨ cenv.kindOf y = some .free) := by
      have key : ∀ k, cenv.scope.names.lookup y = some k → k = .local ∨ k = .cell ∨ k = .free → scope.names.lookup y = some .free ∧ (cenv.kindOf y = some .cell ∨ cenv.kindOf y = some .free) := fun k hk hk' => by
        have hk0 := hk
        rw [hsc] at hk
        obtain ⟨k', e, r⟩ := lookup_relS hk
        have no : ¬ (k' = .local ∨ k' = .cell) := fun hh => by
          rcases ok.own _ (PySem.mem_of_lookup e) hh with e' | e'
          · obtain ⟨p, hp, hpy⟩ := List.mem_map.mp e'
            have e3 := ok.ix p hp
            have : p.1 = y := hpy
            rw [this] at e3
            exact hne (List.mem_map.mpr ⟨p, hp, nodup_ix hN e3 e1⟩)
          · exact e' (List.mem_of_getElem? e1)
        rcases r with rfl | ⟨rfl, rfl⟩
        · rcases hk' with rfl | rfl | rfl
          · exact absurd (.inl rfl) no
          · exact absurd (.inr rfl) no
          · exact ⟨e, .inr hk0⟩
        · exact ⟨e, .inl hk0⟩
      have e3 : Vis cenv.scope y := e3
      rcases e3 with e3 | e3 | e3
      · exact key _ e3 (.inl rfl)
      · exact key _ e3 (.inr (.inl rfl))
      · exact key _ e3 (.inr (.inr rfl))
    obtain ⟨m, hn, hl⟩ := I.loc
    have hvis : Vis X.env.scope y := (ok.free _ (PySem.mem_of_lookup hfr.1) rfl).elim (fun k => .inr (.inl k)) (fun k => .inr (.inr k))
    obtain ⟨w, r, q⟩ := hl i y av e1 e2 hvis
    refine ⟨w, r, .inr ⟨hfr.2, ?_⟩⟩
    obtain ⟨c, h1, h2⟩ := look hfr.1
    rcases q with ⟨k, _⟩ | ⟨_, c', e', z⟩
    · have k : X.env.scope.names.lookup y = some .local := k
      rcases ok.free _ (PySem.mem_of_lookup hfr.1) rfl with k' | k' <;> rw [show X.env.scope.names.lookup y = _ from k'] at k <;> cases k
    · rw [h2] at e'; cases e'
      exact ⟨c, h1, z.keeps kp⟩
  · have e : cenv.cells.lookup y = some c := e
    rcases mem e with ⟨h1, _⟩ | ⟨_, z⟩
    · obtain ⟨w, z⟩ := I.cell y c h1
      exact ⟨w, z.keeps kp⟩
    · exact ⟨_, z⟩
  · show H cenv.locals = none
    rw [hL]; exact I.hok.fresh (Nat.le_refl _)
  · have e : cenv.cells.lookup y = some c := e
    rcases mem e with ⟨h1, _⟩ | ⟨h1, _⟩
    · exact I.freeC y c h1
    · exact I.hok.fresh (Nat.le_of_succ_le h1)
  · exact absurd (show p ∈ ([] : List (Addr × Obj)) ++ [] from hp) (by simp)
theorem app_ok {E : Value → Shared → Prop} {D : Addr} {xs : List V} {y : V} {v : Value} {Q : Value → Shared → Prop} (I : Inv X pins σ H s) (hD : H D = some (.lst xs)) (hz : xs.length < sizeLine) (r : RelV y v)
    (h : ∀ s', Inv X pins σ (upd H D (.lst (xs ++ [y]))) s' → Q .none s') : wpAny (model X.prog X.w) X.A (call (.builtin "list.append") [.ref D, v]) Q E s := by
  obtain ⟨hz', its, n, ri, e⟩ := I.hok D _ hD
  have hl := ri.length
  refine append_at (hsz := by rw [List.size_toArray]; omega) e fun h' sb ho' => ?_
  refine h { s with heap := h' } (I.write (t' := s.toks) (by rw [hD]; trivial) (.inl rfl) (fun b u hb q => (sb.2 b hb).trans q) ⟨_, ho'⟩ ⟨by rw [List.length_append]; exact hz, its ++ [v], n + 1, ri.append (.cons r .nil), ?_⟩)
  rw [ho']
  simp
def PTs (X : Cx) (ifs : List Expr) (t : TT) : Prop :=
  ∀ (pins : List (Addr × Obj)) (s : Shared) (σ : St) (H : Hp) (Q : Bool → Hp → Prop), Inv X pins σ H s → t σ H Q →
    wpAny (model X.prog X.w) X.A (forIn ifs true fun c r => if r = true then do let ok ← isTrue c X.env (eval c X.env); pure (ForInStep.yield ok) else pure (ForInStep.yield r)) (TP X pins σ Q) X.xe s
def tYes : TT := fun _ H Q => Q true H
theorem pts_nil : PTs X [] tYes := fun _ _ _ H _ I h => wpAny_tests_nil ⟨H, I, h⟩
end
theorem thnF {α : Type} {t : Sem α} {Q Q' : α → Shared → Prop} {M : Model} {A : Around} {E : Value → Shared → Prop} {s : Shared} (h : wpAny M A t Q (fun _ _ => False) s) (hQ : ∀ a s, Q a s → Q' a s) : wpAny M A t Q' E s := wpAny_mono h hQ fun _ _ z => False.elim z
theorem compLoop_any {prog : Program} {w : World} {A : Around} {R : Result → Shared → Prop} {s : Shared} {elt target iter : Expr} {ifs : List Expr} {scope : Scope} {pos : Pos} {it acc : Value} {env : Env} (I : Nat → Shared → Prop)
    (turn : ∀ n s, I n s → wpAny (model prog w) A (pyNext it) (fun r s₁ => match r with
      | none => R (.ok .next) s₁
      | some v => wpAny (model prog w) A (letOwnedTupleGo target it v) (fun _ s₁' => wpAny (model prog w) A (assign target env v) (fun _ s₂ =>
          wpAny (model prog w) A (forIn ifs true fun c r => if r = true then do let ok ← isTrue c env (eval c env); pure (ForInStep.yield ok) else pure (ForInStep.yield r)) (fun ok s₃ =>
            if ok = true then wpAny (model prog w) A (eval elt env) (fun x s₄ =>
              wpAny (model prog w) A (call (.builtin "list.append") [acc, x]) (fun _ s₅ => ∃ m, m < n ∧ I m s₅) (notedBy (model prog w) A env fun e s' => R (.error e) s') s₄) (notedBy (model prog w) A env fun e s' => R (.error e) s') s₃
            else ∃ m, m < n ∧ I m s₃) (notedBy (model prog w) A env fun e s' => R (.error e) s') s₂) (notedBy (model prog w) A env fun e s' => R (.error e) s') s₁') (notedBy (model prog w) A env fun e s' => R (.error e) s') s₁) (notedBy (model prog w) A env fun e s' => R (.error e) s') s)
    (n : Nat) (h : I n s) :
    codeAny (model prog w) A (.compLoop (.ListComp elt [⟨target, iter, ifs, 0⟩] scope pos) 0 it acc env) R s := by
  refine codeAny_loop rfl I (fun n s hI => ?_) n h
  show wpAny _ A ((compTurn (.ListComp elt [⟨target, iter, ifs, 0⟩] scope pos) 0 it acc env).onRaise (fun x => do noteFrame x env; theTreesLotGoes x)) _ _ s
  refine wpAny_noted ?_
  rw [compTurn_list]
  refine wpAny_bind (wpAny_standAt (wpAny_bind (wpAny_mono (turn n s hI) (fun r s₁ h₁ => ?_) fun _ _ h' => h')))
  cases r with
  | none => exact wpAny_pure h₁
  | some v =>
    refine wpAny_bind (wpAny_mono h₁ (fun _ s₁' h₁' => ?_) fun _ _ h' => h')
    refine wpAny_bind (wpAny_mono h₁' (fun _ s₂ h₂ => wpAny_bind (wpAny_mono h₂ (fun ok s₃ h₃ => ?_) fun _ _ h' => h')) fun _ _ h' => h')
    cases ok with
    | false => exact wpAny_pure ⟨rfl, h₃⟩
    | true =>
      exact wpAny_bind (wpAny_bind (wpAny_mono h₃ (fun x s₄ h₄ => wpAny_bind (wpAny_mono h₄ (fun _ s₅ h₅ => wpAny_pure (wpAny_pure ⟨rfl, h₅⟩)) fun _ _ h' => h')) fun _ _ h' => h'))
section
variable {X : Cx}
def tLc (wi : TI) (g : TG) (tt : TT) (te : TE) (vs : List Nat) : TE := fun σ H Q => wi σ H fun J H1 => ∀ D, H1 D = none → ∃ W : Nat → Nat → Hp → Prop, (∃ m, W 0 m (upd H1 D (.lst []))) ∧ ∀ i m H, W i m H →
  (J.stop i H ∧ Q (.ref D) H) ∨ (J.go i H ∧ ∃ Nx : Hp → Prop, (∀ H', Nx H' → ∃ m', m' < m ∧ W (i + 1) m' H') ∧ ∀ x H', J.yld i H x H' → g x (wipe σ vs) H' fun σ2 H2 => wipe σ2 vs = wipe σ vs ∧ tt σ2 H2 fun b H3 =>
    if b = true then te σ2 H3 fun y H4 => ∃ acc, H4 D = some (.lst acc) ∧ acc.length < sizeLine ∧ Nx (upd H4 D (.lst (acc ++ [y]))) else Nx H3)
theorem lc_core {pins : List (Addr × Obj)} {s : Shared} {σ : St} {H : Hp} {Q : VK} {elt tg iter : Expr} {ifs : List Expr} {scope : Scope} {own : List (Str × Nat)} {pos pos' : Pos} {wi : TI} {g : TG} {tt : TT} {te : TE} {use : Option (Value → Sem Unit)} {Qf : Value → Shared → Prop}
    (hc : X.calm = true) (hN : X.N.Nodup) (I : Inv X pins σ H s) (hi : PI X tg iter wi) (ok : BlkOk X.N X.env.scope scope own)
    (hg : ∀ (s : Shared) (H : Hp) (C : Addr) (cl : List (Str × Addr)) (fp : List Addr), PG (X.blk s H scope (compEnvC scope cl C X.env) fp) tg g) (ht : ∀ (s : Shared) (H : Hp) (C : Addr) (cl : List (Str × Addr)) (fp : List Addr), PTs (X.blk s H scope (compEnvC scope cl C X.env) fp) ifs tt)
    (he : ∀ (s : Shared) (H : Hp) (C : Addr) (cl : List (Str × Addr)) (fp : List Addr), PE (X.blk s H scope (compEnvC scope cl C X.env) fp) elt te) (hs : ∀ x, foldedSetIterable iter X.env x = pure x)
    (h : tLc wi g tt te (own.map (·.2)) σ H Q)
    (hRR : ∀ D C s' m H', Inv X pins σ H' s' → Q (.ref D) H' → s'.heap.Ns C m → FpOk X pins H' C → compPost (model X.prog X.w) X.A X.xe use Qf (.ref D) C (.ok .next) s') :
    wpAny (model X.prog X.w) X.A (comprehension (.ListComp elt [⟨tg, iter, ifs, 0⟩] scope pos) scope X.env pos' (newList []) false (eval iter X.env) use) Qf X.xe s := by
  have hfree : ∀ y ∈ scope.names, y.2 = .free → ∃ c, X.env.cells.lookup y.1 = some c := fun y hy e => by
    rcases ok.free y hy e with k | k
    · exact I.ok.has _ (.inl k)
    · exact I.ok.has _ (.inr k)
  refine wpAny_comprehension_free (use := use) rfl hs (closure_ok hfree) ok.kind (fun y hy e => by rw [ok.uniq y hy, e])
    (thn (hi pins s σ H _ I h) fun xv s1 hx => thn hx fun itv s2 h2 => ?_)
  obtain ⟨it, fp, tn, J, H2, e, I2, T, st2, f2, q⟩ := h2
  subst e
  refine wpAny_newObj_type (newEnv_comp ?_) (by show 0 ≤ sizeLine; decide)
  generalize hD : s2.heap.objs.size = D
  have hDn : H2 D = none := I2.hok.fresh (Nat.le_of_eq hD)
  obtain ⟨W, ⟨m0, w0⟩, turn⟩ := q D hDn
  generalize hs3 : ({ s2 with heap := s2.heap.push { cls := .type "list", data := .seq ([] : List Value).toArray } } : Shared) = s3
  have I3 : Inv X pins σ (upd H2 D (.lst [])) s3 := by
    rw [← hs3]
    refine I2.laid (t' := s2.toks) (fun b o e => Heap.get?_push_of_some _ e) (Nat.le_of_eq hD) ⟨Nat.zero_le _, [], 0, .nil, ?_⟩
    rw [← hD]
    exact Heap.get?_push_size _ rfl
  have h3 : s3.heap = s2.heap.push { cls := .type "list", data := .seq ([] : List Value).toArray } := by rw [← hs3]
  have sz : ∀ b ∈ fp, b < s2.heap.objs.size := fun b hb => by
    obtain ⟨o, e, _⟩ := T.obj _ _ st2 b hb
    exact Heap.lt_size e
  have f3 : ∀ b ∈ fp, FpOk X pins (upd H2 D (.lst [])) b ∧ b < s3.heap.objs.size := fun b hb => by
    have hlt := sz b hb
    refine ⟨⟨?_, (f2 b hb).2⟩, by rw [h3, Heap.size_push]; exact Nat.lt_succ_of_lt hlt⟩
    rw [upd_ne (by rw [← hD]; exact Nat.ne_of_lt hlt)]
    exact (f2 b hb).1
  have st3 : tn 0 s3.heap := T.keep _ _ _ st2 fun b _ o e => by rw [h3]; exact Heap.get?_push_of_some _ e
  have I4 := block_start I3 ok hN f3
  have pg := hg s3 (upd H2 D (.lst [])) s3.heap.objs.size (cellsFrom (s3.heap.objs.size + 1) scope.names (cloFrom X.env.cells scope.names [])) fp
  have pt := ht s3 (upd H2 D (.lst [])) s3.heap.objs.size (cellsFrom (s3.heap.objs.size + 1) scope.names (cloFrom X.env.cells scope.names [])) fp
  have pe := he s3 (upd H2 D (.lst [])) s3.heap.objs.size (cellsFrom (s3.heap.objs.size + 1) scope.names (cloFrom X.env.cells scope.names [])) fp
  show codeAny _ _ (.compStart (.ListComp elt [⟨tg, iter, ifs, 0⟩] scope pos) 0 (.ref it) (.ref D) (compEnvC scope (cellsFrom (s3.heap.objs.size + 1) scope.names (cloFrom X.env.cells scope.names [])) s3.heap.objs.size X.env)) (compPost (model X.prog X.w) X.A X.xe use Qf (.ref D) s3.heap.objs.size) { s3 with heap := pushCells (s3.heap.push { cls := .type "dict", data := .dict #[] }) scope.names }
  have nfp : ∀ b ∈ fp, (upd H2 D (.lst [])) b = none := fun b hb => (f3 b hb).1.1
  generalize hce : compEnvC scope (cellsFrom (s3.heap.objs.size + 1) scope.names (cloFrom X.env.cells scope.names [])) s3.heap.objs.size X.env = ce at I4 pg pt pe ⊢
  have cL : ce.locals = s3.heap.objs.size := by subst hce; rfl
  generalize hH3 : upd H2 D (.lst []) = H3 at I3 I4 pg pt pe w0 nfp f3
  generalize hs4 : ({ s3 with heap := pushCells (s3.heap.push { cls := .type "dict", data := .dict #[] }) scope.names } : Shared) = s4 at I4 ⊢
  have st4 : tn 0 s4.heap := T.keep _ _ _ st3 fun b _ o e => by rw [← hs4]; exact pushCells_keeps _ _ _ _ (Heap.get?_push_of_some _ e)
  have stat : ∀ {σ' : St} {H' : Hp} {s' : Shared}, Inv (X.blk s3 H3 scope ce fp) [] σ' H' s' → (∀ b ∈ fp, H' b = none) → ∀ b ∈ fp, FpOk (X.blk s3 H3 scope ce fp) [] H' b := fun {σ' H' s'} I' hn b hb =>
    ⟨hn b hb, (I'.ok.exf b hb).1, I'.ok.exfs b hb, .inl hb, fun x c e => (I'.ok.exf b hb).2 x c e, fun p hp => absurd (show p ∈ ([] : List (Addr × Obj)) ++ [] from hp) (by simp)⟩
  have loop : codeAny (model X.prog X.w) X.A (.compLoop (.ListComp elt [⟨tg, iter, ifs, 0⟩] scope pos) 0 (.ref it) (.ref D) ce) (compPost (model X.prog X.w) X.A X.xe use Qf (.ref D) s3.heap.objs.size) s4 := by
    refine compLoop_any (fun n s' => ∃ i H', Inv (X.blk s3 H3 scope ce fp) [] (wipe σ (own.map (·.2))) H' s' ∧ tn i s'.heap ∧ (∀ b ∈ fp, H' b = none) ∧ W i n H') ?_ m0 ⟨0, H3, I4, st4, nfp, w0⟩
    rintro n s5 ⟨i, H5, I5, st5, n5, w5⟩
    rcases turn i n H5 w5 with ⟨stop, qq⟩ | ⟨go, Nx, hNx, step⟩
    · have td := T.done (X.blk s3 H3 scope ce fp) rfl rfl rfl hc i [] s5 _ H5 (fun _ _ => False) I5 (stat I5 n5) st5 stop
      refine thnF td fun r s6 ⟨hr, I6⟩ => ?_
      subst hr
      have I7 : Inv X pins σ H5 s6 := I3.call' (ch := fp) I6.os I6.base I6.hok I6.bare fun b hb => ⟨(f3 b hb).1.2.2.2.1, (f3 b hb).1.2.1, (f3 b hb).1.2.2.2.2.1, (f3 b hb).1.2.2.2.2.2⟩
      have nC : H5 s3.heap.objs.size = none := by
        have z : H5 ce.locals = none := I6.free
        rw [cL] at z
        exact z
      obtain ⟨m, hn, _⟩ := I6.loc
      have hn : s6.heap.Ns ce.locals m := hn
      rw [cL] at hn
      exact hRR D s3.heap.objs.size s6 m H5 I7 qq hn (I3.fpOk (Nat.le_refl _) nC)
    · have ti := T.item (X.blk s3 H3 scope ce fp) rfl rfl rfl hc i [] s5 _ H5 (fun _ _ => False) I5 (stat I5 n5) st5 go
      refine thnF ti fun r s6 ⟨u, hr, h6⟩ => ?_
      subst hr
      refine thnF h6 fun _ s7 ⟨x, H7, I7, r7, y7, st7, n7⟩ => ?_
      have I7' := I7.pinned (stat I7 n7) (T.obj _ _ st7)
      refine thnF (pg _ s7 _ H7 x u _ I7' r7 (step x H7 y7)) fun _ s8 ⟨σ8, H8, I8, hw8, q8⟩ => ?_
      refine thnF (pt _ s8 σ8 H8 _ I8 q8) fun b s9 ⟨H9, I9, q9⟩ => ?_
      have fin : ∀ {s' : Shared} {H' : Hp}, Inv (X.blk s3 H3 scope ce fp) ([] ++ pinsAt fp s7.heap) σ8 H' s' → Nx H' → ∃ m, m < n ∧ ∃ i H', Inv (X.blk s3 H3 scope ce fp) [] (wipe σ (own.map (·.2))) H' s' ∧ tn i s'.heap ∧ (∀ b ∈ fp, H' b = none) ∧ W i m H' := fun {s' H'} I' nx => by
        obtain ⟨m', hm, w'⟩ := hNx H' nx
        have pin' : ∀ b ∈ fp, ∀ o, s7.heap.get? b = some o → s'.heap.get? b = some o ∧ H' b = none := fun b hb o e =>
          let z := I'.pin (b, o) (List.mem_append_right _ (List.mem_append_right _ (mem_pinsAt hb e)))
          ⟨z.1, z.2.1⟩
        have hl : (wipe σ (own.map (·.2))).length = σ8.length := by rw [← hw8, wipe_length]
        refine ⟨m', hm, i + 1, H', (I'.unpinned (pins := [])).weak hl (fun j v e => ?_), T.keep _ _ _ st7 fun b hb o e => (pin' b hb o e).1, fun b hb => ?_, w'⟩
        · rw [← hw8] at e
          exact (wipe_some e).1
        · obtain ⟨o, e, _⟩ := T.obj _ _ st7 b hb
          exact (pin' b hb o e).2
      cases b with
      | false =>
        simp only [Bool.false_eq_true, if_false] at q9 ⊢
        exact fin I9 q9
      | true =>
        simp only [if_true] at q9 ⊢
        refine thnF (pe _ s9 σ8 H9 _ I9 q9) fun z s10 ⟨yv, H10, I10, r10, acc, hD10, hz10, nx⟩ => ?_
        exact app_ok (X := X.blk s3 H3 scope ce fp) I10 hD10 hz10 r10 fun s11 I11 => fin I11 nx
  exact codeAny_compStart_list loop (T.self X.A 0 _ _ _ st4 loop)
theorem pe_lc {elt tg iter : Expr} {ifs : List Expr} {scope : Scope} {own : List (Str × Nat)} {pos : Pos} {wi : TI} {g : TG} {tt : TT} {te : TE} (hc : X.calm = true) (hN : X.N.Nodup) (hi : PI X tg iter wi) (ok : BlkOk X.N X.env.scope scope own)
    (hg : ∀ (s : Shared) (H : Hp) (C : Addr) (cl : List (Str × Addr)) (fp : List Addr), PG (X.blk s H scope (compEnvC scope cl C X.env) fp) tg g) (ht : ∀ (s : Shared) (H : Hp) (C : Addr) (cl : List (Str × Addr)) (fp : List Addr), PTs (X.blk s H scope (compEnvC scope cl C X.env) fp) ifs tt)
    (he : ∀ (s : Shared) (H : Hp) (C : Addr) (cl : List (Str × Addr)) (fp : List Addr), PE (X.blk s H scope (compEnvC scope cl C X.env) fp) elt te) (hs : ∀ x, foldedSetIterable iter X.env x = pure x := by intro _; rfl) :
    PE X (.ListComp elt [⟨tg, iter, ifs, 0⟩] scope pos) (tLc wi g tt te (own.map (·.2))) := by
  intro pins s σ H Q I h
  rw [eval_ListComp]
  refine lc_core hc hN I hi ok hg ht he hs h fun D C s' m H' I' q hn f => ⟨m, hn, fun h'' sb => ?_⟩
  obtain ⟨f0, f1, f2, f3, f4, f5⟩ := f
  exact ⟨.ref D, H', I'.turned (t' := s'.toks) (fun b o hb e => (sb.2 b hb).trans e) f0 f1 f3 f4 f5, rfl, q⟩
end
theorem lc_tup {K : PySem.W.Frag} {a : Addr} {xs : List V} {g : TG} {tt : TT} {te : TE} {vs : List Nat} {σ : St} {H1 : Hp} {D : Addr} {Qd : Hp → Prop} (Pv : Nat → Hp → Prop) (h0 : Pv 0 (upd H1 D (.lst []))) (hl : ∀ i H, i ≤ xs.length → Pv i H → SqT K H a xs)
    (hs : ∀ i x H, xs[i]? = some x → Pv i H → g x (wipe σ vs) H fun σ2 H2 => wipe σ2 vs = wipe σ vs ∧ tt σ2 H2 fun b H3 =>
      if b = true then te σ2 H3 fun y H4 => ∃ acc, H4 D = some (.lst acc) ∧ acc.length < sizeLine ∧ Pv (i + 1) (upd H4 D (.lst (acc ++ [y]))) else Pv (i + 1) H3) (hd : ∀ H, Pv xs.length H → Qd H) :
    ∃ W : Nat → Nat → Hp → Prop, (∃ m, W 0 m (upd H1 D (.lst []))) ∧ ∀ i m H, W i m H →
      ((Itt K a).stop i H ∧ Qd H) ∨ ((Itt K a).go i H ∧ ∃ Nx : Hp → Prop, (∀ H', Nx H' → ∃ m', m' < m ∧ W (i + 1) m' H') ∧ ∀ x H', (Itt K a).yld i H x H' → g x (wipe σ vs) H' fun σ2 H2 => wipe σ2 vs = wipe σ vs ∧ tt σ2 H2 fun b H3 =>
        if b = true then te σ2 H3 fun y H4 => ∃ acc, H4 D = some (.lst acc) ∧ acc.length < sizeLine ∧ Nx (upd H4 D (.lst (acc ++ [y]))) else Nx H3) := by
  refine ⟨fun i m H => m = xs.length - i ∧ i ≤ xs.length ∧ Pv i H, ⟨xs.length, by simp, Nat.zero_le _, h0⟩, ?_⟩
  rintro i m H ⟨rfl, hi, p⟩
  have q := hl i H hi p
  by_cases hlt : i < xs.length
  · refine .inr ⟨⟨xs, xs[i], q, by simp [hlt]⟩, Pv (i + 1), fun H' p' => ⟨xs.length - (i + 1), by omega, rfl, hlt, p'⟩, fun x H' y => ?_⟩
    obtain ⟨e, y⟩ := y
    subst e
    exact hs i x _ (y xs q) p
  · have e : i = xs.length := by omega
    subst e
    exact .inl ⟨⟨xs, q, Nat.le_refl _⟩, hd H p⟩
def blkC (N : List Str) (sc scope : Scope) (own : List (Str × Nat)) : Bool :=
  (match scope.kind with | .function => true | _ => false) && (scope.names.all fun y => decide (scope.names.lookup y.1 = some y.2)) && (own.all fun p => decide (N[p.2]? = some p.1)) &&
    (scope.names.all fun y => match y.2 with
      | .free => (match sc.names.lookup y.1 with | some .cell => true | some .free => true | _ => false)
      | .local => decide (y.1 ∈ own.map (·.1)) || decide (y.1 ∉ N)
      | .cell => decide (y.1 ∈ own.map (·.1)) || decide (y.1 ∉ N)
      | _ => true)
theorem blkOk_by {N : List Str} {sc scope : Scope} {own : List (Str × Nat)} (h : blkC N sc scope own = true) : BlkOk N sc scope own := by
  unfold blkC at h
  simp only [Bool.and_eq_true, List.all_eq_true, decide_eq_true_eq] at h
  obtain ⟨⟨⟨h1, h2⟩, h3⟩, h4⟩ := h
  refine ⟨?_, h2, h3, fun y hy e => ?_, fun y hy e => ?_⟩
  · split at h1
    · assumption
    · cases h1
  · have q := h4 y hy
    simp only [e] at q
    split at q <;> first | exact .inl (by assumption) | exact .inr (by assumption) | cases q
  · have q := h4 y hy
    rcases e with e | e <;> (simp only [e, Bool.or_eq_true, decide_eq_true_eq] at q; exact q)
end L2
namespace L2
open PySem PySem.Spec PyProof.Rows
section
variable {κ : Type} [DecidableEq κ]
def valV (kvs : List (κ × V)) (k : κ) : Option V := (kvs.find? fun kv => decide (kv.1 = k)).map (·.2)
def putK (kvs : List (κ × V)) (k : κ) (v : V) : List (κ × V) :=
  if (kvs.any fun kv => decide (kv.1 = k)) = true then kvs.map (fun kv => if kv.1 = k then (kv.1, v) else kv) else kvs ++ [(k, v)]
theorem valV_nil {k : κ} : valV ([] : List (κ × V)) k = none := rfl
theorem valV_pos {p : κ × V} {r : List (κ × V)} {k : κ} (e : p.1 = k) : valV (p :: r) k = some p.2 := by simp [valV, List.find?_cons, e]
theorem valV_neg {p : κ × V} {r : List (κ × V)} {k : κ} (e : ¬ p.1 = k) : valV (p :: r) k = valV r k := by simp [valV, List.find?_cons, e]
theorem valV_any (k : κ) : ∀ kvs : List (κ × V), (kvs.any fun kv => decide (kv.1 = k)) = (valV kvs k).isSome
  | [] => rfl
  | p :: r => by
    rw [List.any_cons]
    by_cases e : p.1 = k
    · simp only [valV_pos e, decide_eq_true e, Bool.true_or, Option.isSome_some]
    · rw [valV_neg e, decide_eq_false e, Bool.false_or]; exact valV_any k r
theorem valV_map (k j : κ) (y : V) : ∀ kvs : List (κ × V), valV (kvs.map fun kv => if kv.1 = k then (kv.1, y) else kv) j = (valV kvs j).map fun x => if j = k then y else x
  | [] => rfl
  | p :: r => by
    have ih := valV_map k j y r
    rw [List.map_cons]
    by_cases h : p.1 = k
    · rw [if_pos h]
      by_cases e : p.1 = j
      · rw [valV_pos (p := (p.1, y)) e, valV_pos e, Option.map_some, if_pos (e.symm.trans h)]
      · rw [valV_neg (p := (p.1, y)) e, valV_neg e, ih]
    · rw [if_neg h]
      by_cases e : p.1 = j
      · rw [valV_pos (p := p) e, valV_pos e, Option.map_some, if_neg (fun z => h (e.trans z))]
      · rw [valV_neg (p := p) e, valV_neg e, ih]
theorem valV_snoc (k j : κ) (y : V) : ∀ kvs : List (κ × V), valV kvs k = none → valV (kvs ++ [(k, y)]) j = if j = k then some y else valV kvs j
  | [], _ => by
    by_cases e : k = j
    · rw [if_pos e.symm]; exact valV_pos (p := (k, y)) e
    · rw [if_neg (fun z => e z.symm)]; exact valV_neg (p := (k, y)) e
  | p :: r, hn => by
    rw [List.cons_append]
    have hk : ¬ p.1 = k := fun z => by rw [valV_pos z] at hn; cases hn
    rw [valV_neg hk] at hn
    have ih := valV_snoc k j y r hn
    by_cases e : p.1 = j
    · rw [valV_pos e, valV_pos e, if_neg (fun z => hk (e.trans z))]
    · rw [valV_neg e, valV_neg e, ih]
theorem valV_put (kvs : List (κ × V)) (k j : κ) (y : V) : valV (putK kvs k y) j = if j = k then some y else valV kvs j := by
  unfold putK
  by_cases a : (kvs.any fun kv => decide (kv.1 = k)) = true
  · rw [if_pos a, valV_map]
    rw [valV_any] at a
    by_cases e : j = k
    · obtain ⟨x, hx⟩ := Option.isSome_iff_exists.mp a
      rw [if_pos e, e, hx, Option.map_some, if_pos rfl]
    · rw [if_neg e]
      cases valV kvs j with
      | none => rfl
      | some x => rw [Option.map_some, if_neg e]
  · rw [if_neg a]
    refine valV_snoc k j y kvs ?_
    rw [valV_any] at a
    cases q : valV kvs k with
    | none => rfl
    | some x => rw [q] at a; exact (a rfl).elim
theorem length_putK (kvs : List (κ × V)) (k : κ) (v : V) : (putK kvs k v).length ≤ kvs.length + 1 := by
  unfold putK
  split
  · rw [List.length_map]; omega
  · rw [List.length_append, List.length_cons, List.length_nil]; omega
theorem RelO.isSome_eq {o : Option V} {u : Option Value} (r : RelO o u) : o.isSome = u.isSome := by
  cases o with
  | none => cases u with
    | none => rfl
    | some _ => exact (show False from r).elim
  | some _ => cases u with
    | none => exact (show False from r).elim
    | some _ => rfl
theorem RelO.getD {o : Option V} {u : Option Value} {d : V} {d' : Value} (r : RelO o u) (rd : RelV d d') : RelV (o.getD d) (u.getD d') := by
  cases o with
  | none => cases u with
    | none => exact rd
    | some _ => exact (show False from r).elim
  | some _ => cases u with
    | none => exact (show False from r).elim
    | some _ => exact r
theorem KV.val {kvs : List (κ × V)} {vs : List (κ × Value)} (r : KV kvs vs) (k : κ) : RelO (valV kvs k) (valueAt vs k) := by
  unfold KV at r
  induction r with
  | nil => exact True.intro
  | @cons p q ps qs h t ih =>
    obtain ⟨h1, h2⟩ := h
    by_cases e : p.1 = k
    · have e' : q.1 = k := h1.symm.trans e
      have b : valueAt (q :: qs) k = some q.2 := by simp [valueAt, List.find?_cons, e']
      rw [valV_pos e, b]; exact h2
    · have e' : ¬ q.1 = k := fun z => e (h1.trans z)
      have b : valueAt (q :: qs) k = valueAt qs k := by simp [valueAt, List.find?_cons, e']
      rw [valV_neg e, b]; exact ih
theorem KV.any {kvs : List (κ × V)} {vs : List (κ × Value)} (r : KV kvs vs) (k : κ) : (kvs.any fun kv => decide (kv.1 = k)) = vs.any fun kv => decide (kv.1 = k) := by
  unfold KV at r
  induction r with
  | nil => rfl
  | cons h t ih => rw [List.any_cons, List.any_cons, ih, h.1]
theorem KV.repl {kvs : List (κ × V)} {vs : List (κ × Value)} (r : KV kvs vs) (k : κ) {y : V} {u : Value} (ry : RelV y u) :
    KV (kvs.map fun kv => if kv.1 = k then (kv.1, y) else kv) (vs.map fun kv => if kv.1 = k then (kv.1, u) else kv) := by
  unfold KV at r ⊢
  induction r with
  | nil => exact .nil
  | @cons p q ps qs h t ih =>
    rw [List.map_cons, List.map_cons]
    refine .cons ?_ ih
    obtain ⟨h1, h2⟩ := h
    by_cases e : p.1 = k
    · rw [if_pos e, if_pos (h1.symm.trans e)]; exact ⟨h1, ry⟩
    · rw [if_neg e, if_neg (fun z => e (h1.trans z))]; exact ⟨h1, h2⟩
theorem KV.put {kvs : List (κ × V)} {vs : List (κ × Value)} (r : KV kvs vs) (k : κ) {y : V} {u : Value} (ry : RelV y u) : KV (putK kvs k y) (stored vs k u) := by
  unfold putK stored
  rw [r.any k]
  by_cases e : (vs.any fun kv => decide (kv.1 = k)) = true
  · rw [if_pos e, if_pos e]; exact r.repl k ry
  · rw [if_neg e, if_neg e]; exact Paired.snoc r ⟨rfl, ry⟩
theorem KV.length {kvs : List (κ × V)} {vs : List (κ × Value)} (r : KV kvs vs) : kvs.length = vs.length := Paired.length r
end
theorem kV_is {P : Program} {w : World} {k : Key} {u : Value} (r : RelV (kV k) u) : (mixKind P w).is k u = true := by
  cases k with
  | inl i => obtain ⟨t, e⟩ := (show ∃ t, u = Value.int i t from r); subst e; exact mixKind_int P w i t
  | inr x => obtain ⟨t, e⟩ := (show ∃ t, u = Value.str x t from r); subst e; exact mixKind_str P w x t
theorem items_are {P : Program} {w : World} : ∀ {ks : List Key} {us : List Value}, Vals (ks.map kV) us → ItemsAre (mixKind P w) ks us
  | [], _, r => by rw [List.map_nil] at r; cases r; exact .nil
  | k :: ks, _, r => by
    rw [List.map_cons] at r
    cases r with
    | cons h t => exact .cons (kV_is h) (items_are t)
abbrev KT (H : Hp) : List (List Key × V) → List (List Key × Addr × Value) → Prop := Paired fun p q => p.1 = q.1 ∧ H q.2.1 = some (.tup (p.1.map kV)) ∧ RelV p.2 q.2.2
theorem KT.val {H : Hp} {kvs : List (List Key × V)} {xs : List (List Key × Addr × Value)} (r : KT H kvs xs) (k : List Key) : RelO (valV kvs k) ((atKey xs k).map (·.2)) := by
  induction r with
  | nil => exact True.intro
  | @cons p q ps qs h t ih =>
    obtain ⟨h1, _, h2⟩ := h
    by_cases e : p.1 = k
    · have e' : q.1 = k := h1.symm.trans e
      have b : atKey (q :: qs) k = some q.2 := by simp [atKey, List.find?_cons, e']
      rw [valV_pos e, b]; exact h2
    · have e' : ¬ q.1 = k := fun z => e (h1.trans z)
      have b : atKey (q :: qs) k = atKey qs k := by simp [atKey, List.find?_cons, e']
      rw [valV_neg e, b]; exact ih
theorem KT.repl {H : Hp} {kvs : List (List Key × V)} {xs : List (List Key × Addr × Value)} (r : KT H kvs xs) (k : List Key) {y : V} {u : Value} (ry : RelV y u) :
    KT H (kvs.map fun kv => if kv.1 = k then (kv.1, y) else kv) (xs.map (putAt k u)) := by
  induction r with
  | nil => exact .nil
  | @cons p q ps qs h t ih =>
    rw [List.map_cons, List.map_cons]
    refine .cons ?_ ih
    obtain ⟨h1, h2, h3⟩ := h
    unfold putAt
    by_cases e : p.1 = k
    · rw [if_pos e, if_pos (h1.symm.trans e)]; exact ⟨h1, h2, ry⟩
    · rw [if_neg e, if_neg (fun z => e (h1.trans z))]; exact ⟨h1, h2, h3⟩
theorem KT.put {H : Hp} {kvs : List (List Key × V)} {xs : List (List Key × Addr × Value)} (r : KT H kvs xs) (k : List Key) {b : Addr} {y : V} {u : Value} (hb : H b = some (.tup (k.map kV))) (ry : RelV y u) :
    KT H (putK kvs k y) (storedH xs k b u) := by
  have e : (kvs.any fun kv => decide (kv.1 = k)) = (atKey xs k).isSome := by
    rw [valV_any, (r.val k).isSome_eq, Option.isSome_map]
  unfold putK storedH
  rw [e]
  by_cases q : (atKey xs k).isSome = true
  · rw [if_pos q, if_pos q]; exact r.repl k ry
  · rw [if_neg q, if_neg q]; exact Paired.snoc r ⟨rfl, hb, ry⟩
theorem KT.keeps {H H' : Hp} {kvs : List (List Key × V)} {xs : List (List Key × Addr × Value)} (r : KT H kvs xs) (ht : ∀ b ys, H b = some (.tup ys) → H' b = some (.tup ys)) : KT H' kvs xs :=
  Paired.mapP r fun _ _ z => ⟨z.1, ht _ _ z.2.1, z.2.2⟩
section
variable {P : Program} {w : World} {H : Hp} {h : Heap} {a : Addr}
theorem rd_of {u : HO} (ok : HOk P w H h) (e : Rd H a u) : ObjOk P w H h a u := e.ok ok
theorem dk_rd {kvs : List (Key × V)} (ok : HOk P w H h) (e : Rd H a (.dK kvs)) : kvs.length ≤ sizeLine ∧ (a == sysModules) = false ∧ ∃ vs, KV kvs vs ∧ h.DictOf (mixKind P w) a vs :=
  show ObjOk P w H h a (.dK kvs) from rd_of ok e
theorem dk_of {kvs : List (Key × V)} (ok : HOk P w H h) (e : H a = some (.dK kvs)) : kvs.length ≤ sizeLine ∧ (a == sysModules) = false ∧ ∃ vs, KV kvs vs ∧ h.DictOf (mixKind P w) a vs := dk_rd ok (.inl e)
theorem key_of {ks : List Key} (ok : HOk P w H h) (e : H a = some (.tup (ks.map kV))) : (tupleKind (mixKind P w)).is h ks a := by
  obtain ⟨_, its, r, o, h1, h2, n, h3⟩ := (show ObjOk P w H h a (.tup (ks.map kV)) from ok a _ e)
  exact ⟨o, its.toArray, n, h1, h2, h3, by simpa using items_are r⟩
theorem dt_rd {kvs : List (List Key × V)} (ok : HOk P w H h) (e : Rd H a (.dT kvs)) : kvs.length ≤ sizeLine ∧ (a == sysModules) = false ∧
    ∃ xs, KT H kvs xs ∧ h.DictOfH (tupleKind (mixKind P w)) a xs := by
  obtain ⟨z, y, xs, r, o, es, ep, h1, h2, h3, h4, h5⟩ := (show ObjOk P w H h a (.dT kvs) from rd_of ok e)
  refine ⟨z, y, xs, r, o, es, ep, h1, h2, h3, h4, fun x hx => ?_, h5⟩
  have all : ∀ {l : List (List Key × V)} {m : List (List Key × Addr × Value)}, KT H l m → ∀ x ∈ m, (tupleKind (mixKind P w)).is h x.1 x.2.1 := by
    intro l m q
    induction q with
    | nil => intro x hx; exact nomatch hx
    | @cons p q ps qs hq t ih =>
      intro x hx
      rcases List.mem_cons.mp hx with e | hx
      · subst e
        exact key_of ok (by rw [← hq.1]; exact hq.2.1)
      · exact ih x hx
  exact all r x hx
theorem dt_of {kvs : List (List Key × V)} (ok : HOk P w H h) (e : H a = some (.dT kvs)) : kvs.length ≤ sizeLine ∧ (a == sysModules) = false ∧
    ∃ xs, KT H kvs xs ∧ h.DictOfH (tupleKind (mixKind P w)) a xs := dt_rd ok (.inl e)
end
def DGet (H : Hp) (a : Addr) (y : V) (r : Option V) : Prop :=
  (∃ kvs k, Rd H a (.dK kvs) ∧ y = kV k ∧ r = valV kvs k) ∨ ∃ kvs k b, Rd H a (.dT kvs) ∧ y = .ref b ∧ H b = some (.tup (k.map kV)) ∧ r = valV kvs k
def DPut (H : Hp) (a : Addr) (y v : V) (H' : Hp) : Prop :=
  (∃ kvs k, H a = some (.dK kvs) ∧ y = kV k ∧ kvs.length < sizeLine ∧ H' = upd H a (.dK (putK kvs k v))) ∨
  ∃ kvs k b, H a = some (.dT kvs) ∧ y = .ref b ∧ H b = some (.tup (k.map kV)) ∧ kvs.length < sizeLine ∧ H' = upd H a (.dT (putK kvs k v))
theorem DGet.k {H : Hp} {a : Addr} {kvs : List (Key × V)} {k : Key} (e : H a = some (.dK kvs)) : DGet H a (kV k) (valV kvs k) := .inl ⟨kvs, k, .inl e, rfl, rfl⟩
theorem DGet.t {H : Hp} {a b : Addr} {kvs : List (List Key × V)} {k : List Key} (e : H a = some (.dT kvs)) (eb : H b = some (.tup (k.map kV))) : DGet H a (.ref b) (valV kvs k) := .inr ⟨kvs, k, b, .inl e, rfl, eb, rfl⟩
theorem DPut.k {H : Hp} {a : Addr} {kvs : List (Key × V)} {k : Key} {v : V} (e : H a = some (.dK kvs)) (hl : kvs.length < sizeLine) : DPut H a (kV k) v (upd H a (.dK (putK kvs k v))) := .inl ⟨kvs, k, e, rfl, hl, rfl⟩
theorem DPut.t {H : Hp} {a b : Addr} {kvs : List (List Key × V)} {k : List Key} {v : V} (e : H a = some (.dT kvs)) (eb : H b = some (.tup (k.map kV))) (hl : kvs.length < sizeLine) :
    DPut H a (.ref b) v (upd H a (.dT (putK kvs k v))) := .inr ⟨kvs, k, b, e, rfl, eb, hl, rfl⟩
section
variable {X : Cx} {pins : List (Addr × Obj)} {σ : St} {H : Hp} {s : Shared} {a : Addr} {y v : V} {u r : Value} {o : Option V} {A : Around} {E : Value → Shared → Prop}
theorem Inv.big (I : Inv X pins σ H s) : sysModules < s.heap.objs.size := by
  have h : mainGlobals < s.heap.objs.size := (I.mod.glob.keeps I.bk).lt
  exact Nat.lt_trans (by decide) h
theorem d_in {Q : Value → Shared → Prop} (hu : A.units + 1 < cLine) (I : Inv X pins σ H s) (g : DGet H a y o) (ry : RelV y u) (h : ∀ s', Inv X pins σ H s' → Q (.bool o.isSome) s') :
    wpAny (model X.prog X.w) A (compareOp .In u (.ref a)) Q E s := by
  rcases g with ⟨kvs, k, e, ey, l⟩ | ⟨kvs, k, b, e, ey, eb, l⟩
  · subst ey
    obtain ⟨z, hd, vs, rel, dd⟩ := dk_rd I.hok e
    refine wpAny_in_of (kV_is ry) hd dd.mapOf ?_
    rw [← (rel.val k).isSome_eq, ← l]
    exact h _ (I.tok _)
  · subst ey
    cases (show u = Value.ref b from ry)
    obtain ⟨z, hd, xs, rel, dd⟩ := dt_rd I.hok e
    refine wpAny_in_heap (tupleKind_room_in1 hu) (key_of I.hok eb) hd dd ?_
    have q := (rel.val k).isSome_eq
    rw [Option.isSome_map] at q
    rw [← q, ← l]
    exact h _ (I.tok _)
theorem d_notIn {Q : Value → Shared → Prop} (hu : A.units + 1 < cLine) (I : Inv X pins σ H s) (g : DGet H a y o) (ry : RelV y u) (h : ∀ s', Inv X pins σ H s' → Q (.bool (!o.isSome)) s') :
    wpAny (model X.prog X.w) A (compareOp .NotIn u (.ref a)) Q E s := by
  rcases g with ⟨kvs, k, e, ey, l⟩ | ⟨kvs, k, b, e, ey, eb, l⟩
  · subst ey
    obtain ⟨z, hd, vs, rel, dd⟩ := dk_rd I.hok e
    refine wpAny_notIn_of (kV_is ry) hd dd.mapOf ?_
    rw [← (rel.val k).isSome_eq, ← l]
    exact h _ (I.tok _)
  · subst ey
    cases (show u = Value.ref b from ry)
    obtain ⟨z, hd, xs, rel, dd⟩ := dt_rd I.hok e
    refine wpAny_notIn_heap (tupleKind_room_in1 hu) (key_of I.hok eb) hd dd ?_
    have q := (rel.val k).isSome_eq
    rw [Option.isSome_map] at q
    rw [← q, ← l]
    exact h _ (I.tok _)
theorem d_write {h' : Heap} {t' : Nat} {ob : HO} (I : Inv X pins σ H s) (mu : Mut (H a)) (hs : Heap.SameBut a s.heap h') (he : ∃ q, h'.get? a = some q) (new : ObjOk X.prog X.w (upd H a ob) h' a ob) :
    Inv X pins σ (upd H a ob) { s with heap := h', toks := t' } :=
  I.write (x := a) (e := a) mu (.inl rfl) (fun b q hb z => (hs.2 b hb).trans z) he new
theorem dk_new {P : Program} {w : World} {H' : Hp} {h' : Heap} {kvs : List (Key × V)} {vs : List (Key × Value)} (z : kvs.length ≤ sizeLine) (hd : (a == sysModules) = false) (rel : KV kvs vs) (dd : h'.DictOf (mixKind P w) a vs) :
    ObjOk P w H' h' a (.dK kvs) := ⟨z, hd, vs, rel, dd⟩
theorem d_setItem {H' : Hp} {Q : Unit → Shared → Prop} (hu : A.units + 1 < cLine) (I : Inv X pins σ H s) (g : DPut H a y v H') (ry : RelV y u) (rv : RelV v r) (h : ∀ s', Inv X pins σ H' s' → Q () s') :
    wpAny (model X.prog X.w) A (setItem (.ref a) u r) Q E s := by
  rcases g with ⟨kvs, k, e, ey, l, eH⟩ | ⟨kvs, k, b, e, ey, eb, l, eH⟩
  · subst ey eH
    obtain ⟨z, hd, vs, rel, dd⟩ := dk_of I.hok e
    have hz : vs.length ≤ sizeLine := by rw [← rel.length]; exact z
    have hl : (putK kvs k v).length ≤ sizeLine := by have := length_putK kvs k v; omega
    refine wpAny_setItem_pairs (hsz := hz) (kV_is ry) dd fun h' dd' hs => h _ ?_
    have he : ∃ q, h'.get? a = some q := let ⟨q, _, _, hq, _⟩ := dd'; ⟨q, hq⟩
    exact d_write I (by rw [e]; exact True.intro) hs he (dk_new hl hd (rel.put k rv) dd')
  · subst ey eH
    cases (show u = Value.ref b from ry)
    obtain ⟨z, hd, xs, rel, dd⟩ := dt_of I.hok e
    have hz : xs.length ≤ sizeLine := by rw [← Paired.length rel]; exact z
    have hl : (putK kvs k v).length ≤ sizeLine := by have := length_putK kvs k v; omega
    refine wpAny_setItem_heap (hsz := hz) (tupleKind_room_in1 hu) (key_of I.hok eb) dd fun h' dd' hs => h _ ?_
    obtain ⟨q, es, ep, hq, h2, h3, h4, _, h5⟩ := dd'
    refine d_write I (by rw [e]; exact True.intro) hs ⟨q, hq⟩ ⟨hl, hd, _, (rel.put k eb rv).keeps fun c ys ec => ?_, q, es, ep, hq, h2, h3, h4, h5⟩
    rw [upd_ne (ne_of ec e (fun z => nomatch z))]
    exact ec
end
def tDIn (ty td : TE) : TE := fun σ H Q => ty σ H fun y H1 => td σ H1 fun x H2 => ∃ a o, x = .ref a ∧ DGet H2 a y o ∧ Q (.bl o.isSome) H2
def tDNotIn (ty td : TE) : TE := fun σ H Q => ty σ H fun y H1 => td σ H1 fun x H2 => ∃ a o, x = .ref a ∧ DGet H2 a y o ∧ Q (.bl (!o.isSome)) H2
def sDPut (td ty tv : TE) : TS := fun D σ H => tv σ H fun v H1 => td σ H1 fun x H2 => ty σ H2 fun y H3 => ∃ a H4, x = .ref a ∧ DPut H3 a y v H4 ∧ D.nx σ H4
section
variable {X : Cx} {o i e value : Expr} {pos pos' tpos : Pos} {td ty tv : TE}
theorem pc_din (hu : X.A.units + 1 < cLine) (hi : PE X i ty) (ho : PE X o td) : PC X .In i o (tDIn ty td) := by
  intro pins s σ H Q I h
  refine thn (hi pins s σ H _ I h) fun iv s1 ⟨y, H1, I1, ry, q1⟩ => thn (ho pins s1 σ H1 _ I1 q1) fun u s2 ⟨x, H2, I2, rx, a, ov, ex, g, q2⟩ => ?_
  subst ex
  obtain rfl : u = Value.ref a := rx
  exact d_in hu I2 g ry fun s3 I3 => ⟨.bl ov.isSome, H2, I3, rfl, q2⟩
theorem pc_dnotin (hu : X.A.units + 1 < cLine) (hi : PE X i ty) (ho : PE X o td) : PC X .NotIn i o (tDNotIn ty td) := by
  intro pins s σ H Q I h
  refine thn (hi pins s σ H _ I h) fun iv s1 ⟨y, H1, I1, ry, q1⟩ => thn (ho pins s1 σ H1 _ I1 q1) fun u s2 ⟨x, H2, I2, rx, a, ov, ex, g, q2⟩ => ?_
  subst ex
  obtain rfl : u = Value.ref a := rx
  exact d_notIn hu I2 g ry fun s3 I3 => ⟨.bl (!ov.isSome), H2, I3, rfl, q2⟩
theorem ps_dput (hu : X.A.units + 1 < cLine) (ho : PE X o td) (hi : PE X i ty) (hv : PE X value tv) (hs : swapsWith value (some (.Subscript o i pos')) pos.line X.env = pure false) :
    PS X (.Assign [.Subscript o i pos'] value pos) (sDPut td ty tv) := by
  intro pins s σ H D I h
  refine wpAny_Assign_Subscript (thn (hv pins s σ H _ I h) fun r s1 ⟨v, H1, I1, rv, q1⟩ => thn (ho pins s1 σ H1 _ I1 q1) fun u s2 ⟨x, H2, I2, rx, q2⟩ => thn (hi pins s2 σ H2 _ I2 q2) fun iv s3 ⟨y, H3, I3, ry, a, H4, ex, g, q3⟩ => ?_) hs
  subst ex
  obtain rfl : u = Value.ref a := rx
  exact d_setItem hu I3 g ry rv fun s4 I4 => ⟨σ, H4, I4, q3⟩
end
theorem dk_empty {P : Program} {w : World} {H : Hp} (h : Heap) (hb : sysModules < h.objs.size) : ObjOk P w H (h.push { cls := .type "dict", data := .dict #[] }) h.objs.size (.dK []) :=
  ⟨Nat.zero_le _, beq_eq_false_iff_ne.mpr (Ne.symm (Nat.ne_of_lt hb)), [], .nil, Heap.DictOf.new h⟩
theorem dt_empty {P : Program} {w : World} {H : Hp} (h : Heap) (hb : sysModules < h.objs.size) : ObjOk P w H (h.push { cls := .type "dict", data := .dict #[] }) h.objs.size (.dT []) :=
  ⟨Nat.zero_le _, beq_eq_false_iff_ne.mpr (Ne.symm (Nat.ne_of_lt hb)), [], .nil, _, #[], 0, Heap.get?_push_size _ rfl, ⟨rfl, rfl, rfl⟩, rfl, rfl, List.nodup_nil⟩
def tDNewK : TE := fun _ H Q => ∀ p, H p = none → Q (.ref p) (upd H p (.dK []))
def tDNewT : TE := fun _ H Q => ∀ p, H p = none → Q (.ref p) (upd H p (.dT []))
section
variable {X : Cx} {pos : Pos}
theorem pe_dnewK : PE X (.Dict [] [] pos) tDNewK := fun pins s σ H Q I h =>
  wpAny_Dict_empty ⟨.ref s.heap.objs.size, _, I.laid (a := s.heap.objs.size) (o := .dK []) (t' := s.toks) (fun _ _ q => Heap.get?_push_of_some _ q) (Nat.le_refl _) (dk_empty s.heap I.big), rfl, h _ (I.hok.fresh (Nat.le_refl _))⟩
theorem pe_dnewT : PE X (.Dict [] [] pos) tDNewT := fun pins s σ H Q I h =>
  wpAny_Dict_empty ⟨.ref s.heap.objs.size, _, I.laid (a := s.heap.objs.size) (o := .dT []) (t' := s.toks) (fun _ _ q => Heap.get?_push_of_some _ q) (Nat.le_refl _) (dt_empty s.heap I.big), rfl, h _ (I.hok.fresh (Nat.le_refl _))⟩
end
structure M1 (X : Cx) (o : Expr) (m : Str) (apos : Pos) (e : Expr) (cpos : Pos) : Prop where
  base : attributeBase o m X.env (eval o X.env) = eval o X.env
  few : ((backTo cpos (starEach [e] X.env)).all (fun x => !x.1) && (backToKw cpos (keywordEach [] X.env)).all (fun x => x.1.isSome)
    && decide (([e] : List Expr).length + ([] : List Keyword).length + (if ([] : List Keyword).isEmpty then 0 else 1) < 30)) = true
  line : (apos.endLine == cpos.line) = true
  trees : backTo cpos (starEach [e] X.env) = [(false, eval e X.env)]
structure M2 (X : Cx) (o : Expr) (m : Str) (apos : Pos) (e f : Expr) (cpos : Pos) : Prop where
  base : attributeBase o m X.env (eval o X.env) = eval o X.env
  few : ((backTo cpos (starEach [e, f] X.env)).all (fun x => !x.1) && (backToKw cpos (keywordEach [] X.env)).all (fun x => x.1.isSome)
    && decide (([e, f] : List Expr).length + ([] : List Keyword).length + (if ([] : List Keyword).isEmpty then 0 else 1) < 30)) = true
  line : (apos.endLine == cpos.line) = true
  trees : backTo cpos (starEach [e, f] X.env) = [(false, eval e X.env), (false, eval f X.env)]
def IsD (H : Hp) (a : Addr) : Prop := (∃ kvs, Rd H a (.dK kvs)) ∨ ∃ kvs, Rd H a (.dT kvs)
theorem isD_at {X : Cx} {pins : List (Addr × Obj)} {σ : St} {H : Hp} {s : Shared} {a : Addr} (I : Inv X pins σ H s) (d : IsD H a) :
    s.TypeIs (.ref a) "dict" ∧ (∀ b, Value.ref a = .ref b → ∃ ob, s.heap.get? b = some ob ∧ ob.dict = none) ∧ (a == sysModules) = false := by
  rcases d with ⟨kvs, e⟩ | ⟨kvs, e⟩
  · obtain ⟨_, hd, vs, _, dd⟩ := dk_rd I.hok e
    refine ⟨dd.typeIs, fun b q => ?_, hd⟩
    cases q
    obtain ⟨ob, _, _, h1, h2, _⟩ := dd
    exact ⟨ob, h1, h2.2.1⟩
  · obtain ⟨_, hd, xs, _, dd⟩ := dt_rd I.hok e
    refine ⟨dd.typeIs, fun b q => ?_, hd⟩
    cases q
    obtain ⟨ob, _, _, h1, h2, _⟩ := dd
    exact ⟨ob, h1, h2.2.1⟩
section
variable {X : Cx} {pins : List (Addr × Obj)} {σ : St} {H : Hp} {s : Shared} {a : Addr} {y d : V} {u r : Value} {o : Option V} {A : Around} {E : Value → Shared → Prop}
theorem d_get1 {Q : Value → Shared → Prop} (hu : A.units + 1 < cLine) (I : Inv X pins σ H s) (g : DGet H a y o) (ry : RelV y u) (h : ∀ w' s', Inv X pins σ H s' → RelV (o.getD .non) w' → Q w' s') :
    wpAny (model X.prog X.w) A (call (.builtin "dict.get") [.ref a, u]) Q E s := by
  rcases g with ⟨kvs, k, e, ey, l⟩ | ⟨kvs, k, b, e, ey, eb, l⟩
  · subst ey
    obtain ⟨z, hd, vs, rel, dd⟩ := dk_rd I.hok e
    refine call_meetsIn PySem.F.slot_dict_get dd.typeIs PySem.F.entry_dict_get (PySem.F.args_dict_get_2 _ _) (meets_dict_get (mixKind X.prog X.w) a (kV_is ry) hd) ⟨_, dd.mapOf, h _ _ (I.tok _) ?_⟩
    rw [l]
    exact (rel.val k).getD rfl
  · subst ey
    cases (show u = Value.ref b from ry)
    obtain ⟨z, hd, xs, rel, dd⟩ := dt_rd I.hok e
    refine call_meetsIn PySem.F.slot_dict_get dd.typeIs PySem.F.entry_dict_get (PySem.F.args_dict_get_2 _ _) (meetsH_dict_get (tupleKind (mixKind X.prog X.w)) a b hd) ⟨tupleKind_room_in1 hu, k, xs, key_of I.hok eb, dd, h _ _ (I.tok _) ?_⟩
    rw [l]
    exact (rel.val k).getD rfl
theorem d_get2 {Q : Value → Shared → Prop} (hu : A.units + 1 < cLine) (I : Inv X pins σ H s) (g : DGet H a y o) (ry : RelV y u) (rd : RelV d r) (h : ∀ w' s', Inv X pins σ H s' → RelV (o.getD d) w' → Q w' s') :
    wpAny (model X.prog X.w) A (call (.builtin "dict.get") [.ref a, u, r]) Q E s := by
  rcases g with ⟨kvs, k, e, ey, l⟩ | ⟨kvs, k, b, e, ey, eb, l⟩
  · subst ey
    obtain ⟨z, hd, vs, rel, dd⟩ := dk_rd I.hok e
    refine call_meetsIn PySem.F.slot_dict_get dd.typeIs PySem.F.entry_dict_get (PySem.F.args_dict_get_3 _ _ _) (meets_dict_get_default (mixKind X.prog X.w) a (kV_is ry) hd r) ⟨_, dd.mapOf, h _ _ (I.tok _) ?_⟩
    rw [l]
    exact (rel.val k).getD rd
  · subst ey
    cases (show u = Value.ref b from ry)
    obtain ⟨z, hd, xs, rel, dd⟩ := dt_rd I.hok e
    refine call_meetsIn PySem.F.slot_dict_get dd.typeIs PySem.F.entry_dict_get (PySem.F.args_dict_get_3 _ _ _) (meetsH_dict_get_default (tupleKind (mixKind X.prog X.w)) a b hd r) ⟨tupleKind_room_in1 hu, k, xs, key_of I.hok eb, dd, h _ _ (I.tok _) ?_⟩
    rw [l]
    exact (rel.val k).getD rd
end
def tDGet1 (td ty : TE) : TE := fun σ H Q => td σ H fun x H1 => ∃ a, x = .ref a ∧ IsD H1 a ∧ ty σ H1 fun y H2 => ∃ o, DGet H2 a y o ∧ Q (o.getD .non) H2
def tDGet2 (td ty tx : TE) : TE := fun σ H Q => td σ H fun x H1 => ∃ a, x = .ref a ∧ IsD H1 a ∧ ty σ H1 fun y H2 => tx σ H2 fun z H3 => ∃ o, DGet H3 a y o ∧ Q (o.getD z) H3
section
variable {X : Cx} {o e f : Expr} {apos cpos : Pos} {td ty tx : TE}
theorem pe_dget1 (hu : X.A.units + 1 < cLine) (ho : PE X o td) (he : PE X e ty) (m : M1 X o "get" apos e cpos) : PE X (.Call (.Attribute o "get" apos) [e] [] cpos) (tDGet1 td ty) := by
  intro pins s σ H Q I h
  refine wpAny_Call_method m.base m.few m.line PySem.F.plainAttrs_dict PySem.F.slot_dict_get PySem.F.type_dict_get (thn (ho pins s σ H _ I h) fun u s1 ⟨x, H1, I1, rx, a, ex, d, q1⟩ => ?_)
  subst ex
  obtain rfl : u = Value.ref a := rx
  obtain ⟨t1, t2, _⟩ := isD_at I1 d
  refine ⟨t1, t2, ?_⟩
  rw [m.trees]
  refine Calls.callWith_builtin rfl (Calls.evalArgs_plain (Calls.spliced_cons (thn (he pins s1 σ H1 _ I1 q1) fun iv s2 ⟨y, H2, I2, ry, ov, g, q2⟩ => Calls.spliced_nil ?_)))
  exact d_get1 hu I2 g ry fun w' s3 I3 rw' => ⟨_, H2, I3, rw', q2⟩
theorem pe_dget2 (hu : X.A.units + 1 < cLine) (ho : PE X o td) (he : PE X e ty) (hf : PE X f tx) (m : M2 X o "get" apos e f cpos) : PE X (.Call (.Attribute o "get" apos) [e, f] [] cpos) (tDGet2 td ty tx) := by
  intro pins s σ H Q I h
  refine wpAny_Call_method m.base m.few m.line PySem.F.plainAttrs_dict PySem.F.slot_dict_get PySem.F.type_dict_get (thn (ho pins s σ H _ I h) fun u s1 ⟨x, H1, I1, rx, a, ex, d, q1⟩ => ?_)
  subst ex
  obtain rfl : u = Value.ref a := rx
  obtain ⟨t1, t2, _⟩ := isD_at I1 d
  refine ⟨t1, t2, ?_⟩
  rw [m.trees]
  refine Calls.callWith_builtin rfl (Calls.evalArgs_plain (Calls.spliced_cons (thn (he pins s1 σ H1 _ I1 q1) fun iv s2 ⟨y, H2, I2, ry, q2⟩ =>
    Calls.spliced_cons (thn (hf pins s2 σ H2 _ I2 q2) fun fv s3 ⟨z, H3, I3, rz, ov, g, q3⟩ => Calls.spliced_nil ?_))))
  exact d_get2 hu I3 g ry rz fun w' s4 I4 rw' => ⟨_, H3, I4, rw', q3⟩
end
end L2
namespace L2
open PySem PySem.Spec PyProof.Rows
section
variable {X : Cx}
theorem refs_at : ∀ {ps : List Addr} {us : List Value}, Vals (ps.map V.ref) us → us = ps.map Value.ref
  | [], us, r => by
    rw [List.map_nil] at r
    cases r
    rfl
  | p :: ps, us, r => by
    rw [List.map_cons] at r
    cases r with
    | cons h t =>
      cases h
      rw [List.map_cons, ← refs_at t]
end
end L2
namespace L2
open PySem PySem.Spec PyProof.Rows
section
variable {X : Cx} {pins : List (Addr × Obj)} {σ : St} {H : Hp} {s : Shared} {h' : Heap}
theorem Inv.lock {d : Addr} {u : HO} (I : Inv X pins σ H s) (h : H d = some u) (mu : Mut (some u)) : ∃ od, Inv X pins σ (upd H d (.frz od u)) s := by
  have x := I.hok d u h
  have ex : ∃ od, s.heap.get? d = some od := by
    cases u with
    | lst xs => obtain ⟨_, _, _, _, e⟩ := x; exact ⟨_, e⟩
    | dK kvs => obtain ⟨_, _, _, _, o, _, _, e, _⟩ := x; exact ⟨o, e⟩
    | dT kvs => obtain ⟨_, _, _, _, o, _, _, e, _⟩ := x; exact ⟨o, e⟩
    | set S n => obtain ⟨o, _, _, _, e, _⟩ := x; exact ⟨o, e⟩
    | ins C dx fs => obtain ⟨_, _, _, e, _⟩ := x; exact ⟨_, e⟩
    | ext φ => obtain ⟨_, ⟨_, e⟩, _⟩ := x; exact ⟨_, e⟩
    | _ => exact False.elim mu
  obtain ⟨od, e⟩ := ex
  have new : ObjOk X.prog X.w (upd H d (.frz od u)) s.heap d (.frz od u) := by
    refine ⟨e, x.stay (fun b v _ q => q) (fun b q => ?_) fun b xs q => ?_⟩
    · rw [upd_ne (fun z => by rw [z, h] at q; cases q; exact mu)]; exact q
    · rw [upd_ne (fun z => by rw [z, h] at q; cases q; exact mu)]; exact q
  exact ⟨od, I.write (x := d) (e := d) (t' := s.toks) (h' := s.heap) (by rw [h]; exact mu) (.inl rfl) (fun b v _ q => q) ⟨od, e⟩ new⟩
theorem Inv.nofrz {d : Addr} {u : HO} (I : Inv X pins σ H s) (h : H d = some u) (mu : Mut (some u)) : ∀ o' u', X.H_0 d ≠ some (.frz o' u') := fun o' u' e => by
  have q := I.base.frzs d o' u' e
  rw [h] at q
  cases q
  exact mu
theorem Inv.unlock {d : Addr} {od : Obj} {u : HO} (I : Inv X pins σ H s) (h : H d = some (.frz od u)) (hn : ∀ o' u', X.H_0 d ≠ some (.frz o' u')) : Inv X pins σ (upd H d u) s := by
  have neH : ∀ b o, H b = some o → (∀ o' u', o ≠ .frz o' u') → b ≠ d := fun b o e hne z => by
    rw [z, h] at e
    cases e
    exact hne _ _ rfl
  have neN : ∀ b, H b = none → b ≠ d := fun b e z => by rw [z, h] at e; cases e
  refine ⟨I.ok, I.os, I.bare, ⟨I.base.keep, I.base.slot, fun b o e n hx => ?_, I.base.there, fun b xs e => ?_, fun b o x e => ?_, fun b ps e => ?_⟩, I.loc, I.cell, ?_, fun x c e => ?_, fun p hp => ?_, fun b o e => ?_, I.len⟩
  · rw [upd_ne (neN b (I.base.free b o e n hx))]; exact I.base.free b o e n hx
  · have q := I.base.tups b xs e
    rw [upd_ne (neH b _ q (fun _ _ z => nomatch z))]; exact q
  · have q := I.base.frzs b o x e
    rw [upd_ne (fun z => by rw [z] at e; exact hn _ _ e)]; exact q
  · obtain ⟨m, q⟩ := I.base.tbls b ps e
    exact ⟨m, by rw [upd_ne (neH b _ q (fun _ _ z => nomatch z))]; exact q⟩
  · rw [upd_ne (neN _ I.free)]; exact I.free
  · rw [upd_ne (neN c (I.freeC x c e))]; exact I.freeC x c e
  · obtain ⟨e, n, r⟩ := I.pin p hp
    exact ⟨e, by rw [upd_ne (neN _ n)]; exact n, r⟩
  · by_cases hb : b = d
    · rw [hb, upd_same] at e
      cases e
      rw [hb]
      obtain ⟨_, x⟩ := I.hok d _ h
      exact x.stay (fun c v _ q => q) (fun c q => by rw [upd_ne (neH c _ q (fun _ _ z => nomatch z))]; exact q) fun c xs q => by rw [upd_ne (neH c _ q (fun _ _ z => nomatch z))]; exact q
    · rw [upd_ne hb] at e
      exact (I.hok b o e).stay (fun c v _ q => q) (fun c q => by rw [upd_ne (neH c _ q (fun _ _ z => nomatch z))]; exact q) fun c xs q => by rw [upd_ne (neH c _ q (fun _ _ z => nomatch z))]; exact q
end
end L2
section 
end 
section 
end 
namespace L2
open PySem PySem.Spec PyProof.Rows
abbrev KOf {K : PySem.W.Frag} {h : Heap} (_ : K.In h) : PySem.W.Frag := K
end L2
namespace L2
open PySem PySem.Spec PyProof.Rows
def inClass (s : Stmt) (j : Nat) : Stmt := match s with
  | .ClassDef _ _ _ body _ _ _ _ _ _ _ => body.getD j (.Pass ⟨0, 0, 0, 0⟩)
  | _ => .Pass ⟨0, 0, 0, 0⟩
def defArgs (s : Stmt) : Arguments := match s with
  | .FunctionDef _ a _ _ _ _ _ _ _ _ => a
  | _ => { posonlyargs := [], args := [], vararg := none, kwonlyargs := [], kw_defaults := [], kwarg := none, defaults := [] }
def defBody (s : Stmt) : List Stmt := match s with
  | .FunctionDef _ _ b _ _ _ _ _ _ _ => b
  | _ => []
def defScope (s : Stmt) : Scope := match s with
  | .FunctionDef _ _ _ _ _ _ sc _ _ _ => sc
  | _ => { kind := .function, names := [], isGenerator := false, isCoroutine := false }
abbrev CX0 : CXT := fun _ _ _ _ _ _ => False
abbrev E0 : XK := fun _ _ _ => False
theorem pass0 {X : Cx} : Passes CX0 X E0 := fun _ _ _ _ _ _ _ h => h.elim
structure Fun (K : PySem.W.Frag) (x qual : Str) (st : Stmt) (f : Addr) (fd : FuncData) : Prop where
  ex : ∃ (oc : Value) (od : Option Addr) (kV doc pm : Value) (an : Option Addr) (cdv ct : Value) (osl : Array (Option Value)),
    fd = PySem.W.fnOf x qual (defArgs st) (defBody st) (defScope st) .none kV doc pm an cdv ct ∧ K.lookup f = some ⟨oc, od, .func fd, osl⟩ ∧ PySem.W.codeIn K cdv qual = true
  kp : PySem.W.keepIn K (.ref f) = true
section
variable {P : Program} {w : World} {K : PySem.W.Frag} {mg : Str → Option Value} {base : Heap}
theorem Fun.ok {x qual : Str} {st : Stmt} {f : Addr} {fd : FuncData} {N ps : List Str} {k : Nat} {sp : Sp} (F : Fun K x qual st f fd) (S : FnScope N ps (defScope st)) (len : ∀ vs H Q E, sp vs H Q E → vs.length = ps.length)
    (hbody : ∀ (cdv : Value) (A : Around) (outer : List Env) (s : Shared) (H : Hp) (vs : List V) (Q : VK) (E : XK), Room k (A.deeper (envOfC qual (defScope st) s.heap.objs.size f cdv)) → sp vs H Q E →
      ∃ t, PSs (cxOf CX0 P w K mg base N qual (defScope st) f cdv A outer s H E).nox (defBody st) t ∧ t { nx := fun _ H' => Q .non H', rt := Q } (start N vs) H) : FnOk P w K mg base CX0 (k + 1) f fd ps sp := by
  obtain ⟨oc, od, kV, doc, pm, an, cdv, ct, osl, rfl, lk, hcd⟩ := F.ex
  refine fn_of lk hcd S len fun A outer s H vs Q E hr hsp => ?_
  obtain ⟨t, h, q⟩ := hbody cdv A outer s H vs Q E hr hsp
  exact ⟨t, h.nox, q⟩
theorem Fun.binds {x qual : Str} {st : Stmt} {f : Addr} {fd : FuncData} {ps : List Str} (F : Fun K x qual st f fd)
    (h : ∀ (kV doc pm : Value) (an : Option Addr) (cdv ct : Value) (us : List Value), us.length = ps.length → bindArgs (PySem.W.fnOf x qual (defArgs st) (defBody st) (defScope st) .none kV doc pm an cdv ct) ⟨us, []⟩ = pure (ps.zip us)) : Binds K fd ps [] := by
  obtain ⟨oc, od, kV, doc, pm, an, cdv, ct, osl, rfl, lk, hcd⟩ := F.ex
  exact .all (h kV doc pm an cdv ct)
theorem fun_mk {x qual : Str} {st : Stmt} {f : Addr} {oc : Value} {od an : Option Addr} {osl : Array (Option Value)} {kV doc pm cdv ct : Value} (l : K.lookup f = some ⟨oc, od, .func (PySem.W.fnOf x qual (defArgs st) (defBody st) (defScope st) .none kV doc pm an cdv ct), osl⟩)
    (c : PySem.W.codeIn K cdv qual = true) (k : PySem.W.keepIn K (.ref f) = true) : Fun K x qual st f (PySem.W.fnOf x qual (defArgs st) (defBody st) (defScope st) .none kV doc pm an cdv ct) := ⟨⟨oc, od, kV, doc, pm, an, cdv, ct, osl, rfl, l, c⟩, k⟩
end
theorem hu_of {A : Around} {k : Nat} (hr : Room k A) : A.units + 1 < cLine := Nat.lt_of_le_of_lt (Nat.add_le_add_left (by decide : 1 ≤ 64) _) hr.units
section
variable {X : Cx}
theorem pv (i : Nat) {x : Str} {pos : Pos} (hN : X.N[i]? = some x := by rfl) (hv : Vis X.env.scope x := by first | exact Or.inl rfl | exact Or.inr (Or.inl rfl) | exact Or.inr (Or.inr rfl)) (hd : (x == ("__debug__" : Str)) = false := by decide)
    (hcd : (x == ("__classdict__" : Str)) = false := by decide) : PE X (.Name x pos) (tVar i) := pe_var hN hv hd hcd
end
theorem iteF {A B : Prop} (h : B) : if false = true then A else B := by
  rw [if_neg Bool.false_ne_true]
  exact h
theorem iteT {A B : Prop} (h : A) : if true = true then A else B := by
  rw [if_pos rfl]
  exact h
theorem ite2 {c A B : Prop} [Decidable c] (h1 : c → A) (h2 : ¬ c → B) : if c then A else B := by
  by_cases h : c
  · rw [if_pos h]
    exact h1 h
  · rw [if_neg h]
    exact h2 h
theorem iteNS {c A B : Prop} [Decidable c] (hc : c) (h : B) : if (!decide c) = true then A else B := by
  rw [decide_eq_true hc]
  exact iteF h
def Same (H H' : Hp) : Prop := ∀ b o, H b = some o → H' b = some o
theorem Same.refl (H : Hp) : Same H H := fun _ _ h => h
theorem Same.trans {H H1 H2 : Hp} (a : Same H H1) (b : Same H1 H2) : Same H H2 := fun c o h => b c o (a c o h)
theorem Same.free {H H' : Hp} (e : Same H H') {l : Addr} (h : H' l = Option.none) : H l = Option.none := by
  cases q : H l with
  | none => rfl
  | some o =>
    rw [e l o q] at h
    cases h
section
variable {κ : Type} [DecidableEq κ]
theorem nd_snoc : ∀ {l : List κ} {k : κ}, l.Nodup → ¬ k ∈ l → (l ++ [k]).Nodup
  | [], k, _, _ => by simp
  | a :: r, k, h, hk => by
    obtain ⟨h1, h2⟩ := List.nodup_cons.mp h
    show (a :: (r ++ [k])).Nodup
    refine List.nodup_cons.mpr ⟨fun m => ?_, nd_snoc h2 fun m => hk (List.mem_cons.mpr (Or.inr m))⟩
    rcases List.mem_append.mp m with q | q
    · exact h1 q
    · exact hk (List.mem_cons.mpr (Or.inl (List.mem_singleton.mp q).symm))
end
theorem nd_ix {α : Type} {l : List α} (hN : l.Nodup) {i j : Nat} {x : α} (a : l[i]? = some x) (b : l[j]? = some x) : i = j := by
  obtain ⟨h1, e1⟩ := List.getElem?_eq_some_iff.mp a
  obtain ⟨h2, e2⟩ := List.getElem?_eq_some_iff.mp b
  exact (List.getElem_inj hN).mp (e1.trans e2.symm)
theorem Same.made {H H1 : Hp} {x dx C : Addr} (nx : H x = Option.none) (nd : H dx = Option.none) (k : ∀ b o, (upd (upd H dx (.own x)) x (.ins C dx [])) b = some o → b ≠ x → H1 b = some o) : Same H H1 := fun b o e =>
  k b o (by rw [upd_ne (ne_of_none e nx), upd_ne (ne_of_none e nd)]; exact e) (ne_of_none e nx)
end L2
section
set_option Elab.async false
set_option linter.all false
set_option maxRecDepth 100000
set_option maxHeartbeats 2000000
namespace L2
open PySem PySem.Spec PyProof.Rows
open PySem.W (WData Codec OpenSpec Well WellAll ReadsW ReadsAllW)
mutual
inductive Dw (K : PySem.W.Frag) (H : Hp) : V → WData → Prop
  | non : Dw K H .non .none
  | bl (b : Bool) : Dw K H (.bl b) (.bool b)
  | int (i : Int) : Dw K H (.int i) (.int i)
  | str (x : Str) : Dw K H (.str x) (.str x)
  | byt (b : Array UInt8) : Dw K H (.byt b) (.bytes b.toList)
  | lst {a : Addr} {xs : List V} {ds : List WData} : SqL K H a xs → DwAll K H xs ds → Dw K H (.ref a) (.list ds)
  | tup {a : Addr} {xs : List V} {ds : List WData} : SqT K H a xs → DwAll K H xs ds → Dw K H (.ref a) (.tuple ds)
inductive DwAll (K : PySem.W.Frag) (H : Hp) : List V → List WData → Prop
  | nil : DwAll K H [] []
  | cons {v : V} {vs : List V} {d : WData} {ds : List WData} : Dw K H v d → DwAll K H vs ds → DwAll K H (v :: vs) (d :: ds)
end
theorem dw_ints {K : PySem.W.Frag} {H : Hp} : ∀ ns : List Int, DwAll K H (ns.map V.int) (ns.map WData.int)
  | [] => .nil
  | n :: r => .cons (.int n) (dw_ints r)
theorem ints_dw {K : PySem.W.Frag} {H : Hp} : ∀ (ns : List Int) (xs : List V), DwAll K H xs (ns.map WData.int) → xs = ns.map V.int
  | [], xs, h => by
    cases h
    rfl
  | n :: r, xs, h => by
    cases h with
    | cons h1 h2 =>
      cases h1
      rw [ints_dw r _ h2] <;> rfl
section
variable {P : Program} {w : World} {K : PySem.W.Frag} {H : Hp} {h : Heap} {R : PySem.W.WRecords} {cl : Str → Option Addr}
theorem sqL_at {a : Addr} {xs : List V} (hok : HOk P w H h) (KX : K.In h) (q : SqL K H a xs) : ∃ (its : List Value) (o : Obj) (n : Nat), Vals xs its ∧ h.get? a = some o ∧ o.cls = .type "list" ∧ o.data = .seq its.toArray n := by
  rcases q with q | ⟨o, its, n, e, hc, _, hd, _, hv⟩
  · obtain ⟨_, its, n, hv, e⟩ := (show ObjOk P w H h a (.lst xs) from q.ok hok)
    exact ⟨its, _, n, hv, e, rfl, rfl⟩
  · exact ⟨its.toList, o, n, hv, KX _ _ e, hc, by simp [hd]⟩
theorem sqT_at {a : Addr} {xs : List V} (hok : HOk P w H h) (KX : K.In h) (q : SqT K H a xs) : ∃ (its : List Value) (o : Obj) (n : Nat), Vals xs its ∧ h.get? a = some o ∧ o.cls = .type "tuple" ∧ o.data = .seq its.toArray n := by
  rcases q with q | ⟨o, its, n, e, hc, hd, _, hv⟩
  · obtain ⟨_, its, hv, o, e, hc, n, hd⟩ := (show ObjOk P w H h a (.tup xs) from q.ok hok)
    exact ⟨its, o, n, hv, e, hc, hd⟩
  · exact ⟨its.toList, o, n, hv, KX _ _ e, hc, by simp [hd]⟩
mutual
theorem Dw.reads (hok : HOk P w H h) (KX : K.In h) : ∀ (d : WData) (v : V) (u : Value), Dw K H v d → RelV v u → ∃ as, ReadsW R cl h u d as
  | .none, _, _, x, r => by
    cases x
    cases r
    exact ⟨_, ReadsW.none⟩
  | .bool b, _, _, x, r => by
    cases x
    cases r
    exact ⟨_, ReadsW.bool b⟩
  | .int i, _, _, x, r => by
    cases x
    obtain ⟨t, rfl⟩ := r
    exact ⟨_, ReadsW.int i t⟩
  | .str s, _, _, x, r => by
    cases x
    obtain ⟨t, rfl⟩ := r
    exact ⟨_, ReadsW.str s t⟩
  | .bytes b, _, _, x, r => by
    cases x
    obtain ⟨t, rfl⟩ := r
    exact ⟨_, ReadsW.bytes _ t⟩
  | .list ds, _, _, x, r => by
    cases x with
    | lst hs ha =>
      cases r
      obtain ⟨its, o, n, rv, ho, hc, hd⟩ := sqL_at hok KX hs
      obtain ⟨as, hr⟩ := Dw.readsAll hok KX ds _ its ha rv
      exact ⟨_, ReadsW.list ho hc hd hr⟩
  | .tuple ds, _, _, x, r => by
    cases x with
    | tup hs ha =>
      cases r
      obtain ⟨its, o, n, rv, ho, hc, hd⟩ := sqT_at hok KX hs
      obtain ⟨as, hr⟩ := Dw.readsAll hok KX ds _ its ha rv
      exact ⟨_, ReadsW.tuple ho hc hd hr⟩
  | .float _, _, _, x, _ => by cases x
  | .dict _, _, _, x, _ => by cases x
  | .bytearray _, _, _, x, _ => by cases x
  | .set _, _, _, x, _ => by cases x
  | .frozenset _, _, _, x, _ => by cases x
  | .obj _ _, _, _, x, _ => by cases x
theorem Dw.readsAll (hok : HOk P w H h) (KX : K.In h) : ∀ (ds : List WData) (vs : List V) (us : List Value), DwAll K H vs ds → Vals vs us → ∃ as, ReadsAllW R cl h us ds as
  | [], _, _, x, r => by
    cases x
    cases r
    exact ⟨_, ReadsAllW.nil⟩
  | d :: ds, _, _, x, r => by
    cases x with
    | cons h1 h2 =>
      cases r with
      | cons r1 r2 =>
        obtain ⟨as, q1⟩ := Dw.reads hok KX d _ _ h1 r1
        obtain ⟨bs, q2⟩ := Dw.readsAll hok KX ds _ _ h2 r2
        exact ⟨_, ReadsAllW.cons q1 q2⟩
end
end
mutual
def plW : WData → Bool
  | .none => true
  | .bool _ => true
  | .int _ => true
  | .str _ => true
  | .bytes _ => true
  | .list xs => plWs xs
  | .tuple xs => plWs xs
  | _ => false
def plWs : List WData → Bool
  | [] => true
  | x :: r => plW x && plWs r
end
theorem plWs_map {α : Type} {f : α → WData} (h : ∀ a, plW (f a) = true) : ∀ l : List α, plWs (l.map f) = true
  | [] => rfl
  | x :: r => by
    show (plW (f x) && plWs (r.map f)) = true
    rw [h x, plWs_map h r] <;> rfl
theorem pl_enc : ∀ (c : Codec) (a : c.denote), plW (c.enc a) = true
  | .unit, _ => rfl
  | .bool, _ => rfl
  | .int _ _, _ => rfl
  | .nat _ _, _ => rfl
  | .u8, _ => rfl
  | .bytes _ _, _ => rfl
  | .text _ _ _ _, _ => rfl
  | .list _ _ c, a => plWs_map (fun x => pl_enc c x) a
  | .pair c d, a => by
    show (plW (c.enc a.1) && (plW (d.enc a.2) && true)) = true
    rw [pl_enc c a.1, pl_enc d a.2] <;> rfl
  | .triple c d e, a => by
    show (plW (c.enc a.1) && (plW (d.enc a.2.1) && (plW (e.enc a.2.2) && true))) = true
    rw [pl_enc c a.1, pl_enc d a.2.1, pl_enc e a.2.2] <;> rfl
  | .option c, none => rfl
  | .option c, some x => pl_enc c x
theorem pl_encAll : ∀ (cs : List Codec) (a : Codec.denoteAll cs), plWs (Codec.encAll cs a) = true
  | [], _ => rfl
  | c :: cs, a => by
    show (plW (c.enc a.1) && plWs (Codec.encAll cs a.2)) = true
    rw [pl_enc c a.1, pl_encAll cs a.2] <;> rfl
theorem weight_mem : ∀ {xs : List WData} {d : WData}, d ∈ xs → d.weight ≤ WData.weightAll xs
  | [], d, h => absurd h (by simp)
  | x :: r, d, h => by
    show d.weight ≤ x.weight + 1 + WData.weightAll r
    rcases List.mem_cons.mp h with e | m
    · rw [e]
      omega
    · have z := weight_mem m
      omega
def toV : Value → V
  | .none => .non
  | .bool b => .bl b
  | .int i _ => .int i
  | .str x _ => .str x
  | .bytes b _ => .byt b
  | .ref a => .ref a
  | _ => .non
def OkU (A : List Addr) : Value → Prop
  | .none => True
  | .bool _ => True
  | .int _ _ => True
  | .str _ _ => True
  | .bytes _ _ => True
  | .ref a => a ∈ A
  | _ => False
theorem OkU.mono {A B : List Addr} (h : ∀ a ∈ A, a ∈ B) : ∀ {u : Value}, OkU A u → OkU B u := fun {u} x => by
  cases u with
  | ref a => exact h a x
  | none => trivial
  | bool b => trivial
  | int i t => trivial
  | str s t => trivial
  | bytes b t => trivial
  | _ => exact False.elim x
theorem relV_toV {A : List Addr} {u : Value} (x : OkU A u) : RelV (toV u) u := by
  cases u with
  | ref a => rfl
  | none => rfl
  | bool b => rfl
  | int i t => exact ⟨t, rfl⟩
  | str s t => exact ⟨t, rfl⟩
  | bytes b t => exact ⟨t, rfl⟩
  | _ => exact False.elim x
theorem vals_toV {A : List Addr} : ∀ {vs : List Value}, (∀ u ∈ vs, OkU A u) → Vals (vs.map toV) vs
  | [], _ => .nil
  | u :: r, h => .cons (relV_toV (h u (List.mem_cons_self ..))) (vals_toV fun x hx => h x (List.mem_cons_of_mem _ hx))
def ArgOb (h : Heap) (A : List Addr) (a : Addr) : Prop := ∃ vs : List Value, vs.length ≤ sizeLine ∧ (∀ u ∈ vs, OkU A u) ∧
  (h.get? a = some { cls := .type "list", data := .seq vs.toArray } ∨ h.get? a = some { cls := .type "tuple", data := .seq vs.toArray })
theorem ArgOb.mono {h : Heap} {A B : List Addr} {a : Addr} (k : ∀ a ∈ A, a ∈ B) (x : ArgOb h A a) : ArgOb h B a := by
  obtain ⟨vs, h1, h2, h3⟩ := x
  exact ⟨vs, h1, fun u hu => (h2 u hu).mono k, h3⟩
theorem wellAll_len {P : Params} {h : Heap} : ∀ {vs : List Value} {ds : List WData}, WellAll P h vs ds → vs.length = ds.length
  | _, _, .nil => rfl
  | _, _, .cons _ b => by
    show _ + 1 = _ + 1
    rw [wellAll_len b]
theorem well_list {P : Params} {h : Heap} {v : Value} {ds : List WData} (x : Well P h v (.list ds)) : ∃ (a : Addr) (vs : List Value), v = .ref a ∧ h.get? a = some { cls := .type "list", data := .seq vs.toArray } ∧ WellAll P h vs ds := by
  cases x with
  | list ho hall => exact ⟨_, _, rfl, ho, hall⟩
theorem well_tuple {P : Params} {h : Heap} {v : Value} {ds : List WData} (x : Well P h v (.tuple ds)) : ∃ (a : Addr) (vs : List Value), v = .ref a ∧ h.get? a = some { cls := .type "tuple", data := .seq vs.toArray } ∧ WellAll P h vs ds := by
  cases x with
  | tuple ho hall => exact ⟨_, _, rfl, ho, hall⟩
theorem well_cons {P : Params} {h : Heap} {us : List Value} {d : WData} {ds : List WData} (x : WellAll P h us (d :: ds)) : ∃ (v : Value) (vs : List Value), us = v :: vs ∧ Well P h v d ∧ WellAll P h vs ds := by
  cases x with
  | cons a b => exact ⟨_, _, rfl, a, b⟩
theorem line_of {n : Nat} (h : n ≤ 1048576) : n ≤ sizeLine := Nat.le_trans h (by decide)
section
variable {P : Params} {h : Heap}
mutual
theorem area_one : ∀ (d : WData) (v : Value), Well P h v d → plW d = true → d.weight ≤ 1048576 → ∃ A : List Addr, OkU A v ∧ ∀ a ∈ A, ArgOb h A a
  | .none, _, x, _, _ => by
    cases x
    exact ⟨[], trivial, fun a m => absurd m (by simp)⟩
  | .bool b, _, x, _, _ => by
    cases x
    exact ⟨[], trivial, fun a m => absurd m (by simp)⟩
  | .int i, _, x, _, _ => by
    cases x
    exact ⟨[], trivial, fun a m => absurd m (by simp)⟩
  | .str s, _, x, _, _ => by
    cases x
    exact ⟨[], trivial, fun a m => absurd m (by simp)⟩
  | .bytes b, _, x, _, _ => by
    cases x
    exact ⟨[], trivial, fun a m => absurd m (by simp)⟩
  | .list ds, _, x, p, z => by
    obtain ⟨a, vs, rfl, ho, hall⟩ := well_list x
    have z2 : WData.weightAll ds ≤ 1048576 := z
    obtain ⟨A, h1, h2⟩ := area_all ds _ hall p fun d hd => Nat.le_trans (weight_mem hd) z2
    have k : ∀ b ∈ A, b ∈ a :: A := fun b hb => List.mem_cons_of_mem _ hb
    refine ⟨a :: A, List.mem_cons_self .., fun b hb => ?_⟩
    rcases List.mem_cons.mp hb with e | m
    · rw [e]
      exact ⟨vs, line_of (by rw [wellAll_len hall]; exact Nat.le_trans (PySem.W.length_le_weightAllW ds) z2), fun u hu => (h1 u hu).mono k, .inl ho⟩
    · exact (h2 b m).mono k
  | .tuple ds, _, x, p, z => by
    obtain ⟨a, vs, rfl, ho, hall⟩ := well_tuple x
    have z2 : WData.weightAll ds ≤ 1048576 := z
    obtain ⟨A, h1, h2⟩ := area_all ds _ hall p fun d hd => Nat.le_trans (weight_mem hd) z2
    have k : ∀ b ∈ A, b ∈ a :: A := fun b hb => List.mem_cons_of_mem _ hb
    refine ⟨a :: A, List.mem_cons_self .., fun b hb => ?_⟩
    rcases List.mem_cons.mp hb with e | m
    · rw [e]
      exact ⟨vs, line_of (by rw [wellAll_len hall]; exact Nat.le_trans (PySem.W.length_le_weightAllW ds) z2), fun u hu => (h1 u hu).mono k, .inr ho⟩
    · exact (h2 b m).mono k
  | .float _, _, _, p, _ => Bool.noConfusion (show false = true from p)
  | .dict _, _, _, p, _ => Bool.noConfusion (show false = true from p)
  | .bytearray _, _, _, p, _ => Bool.noConfusion (show false = true from p)
  | .set _, _, _, p, _ => Bool.noConfusion (show false = true from p)
  | .frozenset _, _, _, p, _ => Bool.noConfusion (show false = true from p)
  | .obj _ _, _, _, p, _ => Bool.noConfusion (show false = true from p)
theorem area_all : ∀ (ds : List WData) (vs : List Value), WellAll P h vs ds → plWs ds = true → (∀ d ∈ ds, d.weight ≤ 1048576) → ∃ A : List Addr, (∀ u ∈ vs, OkU A u) ∧ ∀ a ∈ A, ArgOb h A a
  | [], _, x, _, _ => by
    cases x
    exact ⟨[], fun u m => absurd m (by simp), fun a m => absurd m (by simp)⟩
  | d :: ds, _, x, p, z => by
    obtain ⟨v, vs, rfl, x1, x2⟩ := well_cons x
    have q : plW d = true ∧ plWs ds = true := Bool.and_eq_true_iff.mp p
    obtain ⟨A, a1, a2⟩ := area_one d v x1 q.1 (z d (List.mem_cons_self ..))
    obtain ⟨B, b1, b2⟩ := area_all ds vs x2 q.2 fun e he => z e (List.mem_cons_of_mem _ he)
    have kA : ∀ b ∈ A, b ∈ A ++ B := fun b hb => List.mem_append.mpr (.inl hb)
    have kB : ∀ b ∈ B, b ∈ A ++ B := fun b hb => List.mem_append.mpr (.inr hb)
    refine ⟨A ++ B, fun u hu => ?_, fun b hb => ?_⟩
    · rcases List.mem_cons.mp hu with e | m
      · rw [e]
        exact a1.mono kA
      · exact (b1 u m).mono kB
    · rcases List.mem_append.mp hb with m | m
      · exact (a2 b m).mono kA
      · exact (b2 b m).mono kB
end
end
def hoOf (o : Obj) : Option HO := match o.data with
  | .seq vs _ => if (o.cls == Value.type "list") = true then some (.frz o (.lst (vs.toList.map toV))) else some (.frz o (.tup (vs.toList.map toV)))
  | _ => none
def argH (K : PySem.W.Frag) (h : Heap) (A : List Addr) : Hp := fun b => if b ∈ A then (if (K.lookup b).isNone = true then (h.get? b).bind hoOf else none) else none
def OnlyF (H : Hp) : Prop := ∀ b, H b = none ∨ ∃ o u, H b = some (.frz o u)
theorem hoOf_lst (vs : List Value) : hoOf { cls := .type "list", data := .seq vs.toArray } = some (.frz { cls := .type "list", data := .seq vs.toArray } (.lst (vs.map toV))) := by
  show (if (Value.type "list" == Value.type "list") = true then some (HO.frz { cls := .type "list", data := .seq vs.toArray } (.lst (vs.toArray.toList.map toV))) else some (HO.frz { cls := .type "list", data := .seq vs.toArray } (.tup (vs.toArray.toList.map toV)))) = _
  rw [if_pos (beq_self_eq_true _)]
theorem hoOf_tup (vs : List Value) : hoOf { cls := .type "tuple", data := .seq vs.toArray } = some (.frz { cls := .type "tuple", data := .seq vs.toArray } (.tup (vs.map toV))) := by
  show (if (Value.type "tuple" == Value.type "list") = true then some (HO.frz { cls := .type "tuple", data := .seq vs.toArray } (.lst (vs.toArray.toList.map toV))) else some (HO.frz { cls := .type "tuple", data := .seq vs.toArray } (.tup (vs.toArray.toList.map toV)))) = _
  rw [if_neg (by decide)]
section
variable {P : Program} {w : World} {K : PySem.W.Frag} {h : Heap} {A : List Addr}
theorem argH_at {b : Addr} {o : Obj} (hb : b ∈ A) (hk : K.lookup b = none) (e : h.get? b = some o) : argH K h A b = hoOf o := by
  unfold argH
  rw [if_pos hb, hk, if_pos (show (none : Option Obj).isNone = true from rfl), e] <;> rfl
theorem of_argH {b : Addr} {u : HO} (q : argH K h A b = some u) : b ∈ A ∧ K.lookup b = none := by
  unfold argH at q
  by_cases hb : b ∈ A
  · rw [if_pos hb] at q
    cases hk : K.lookup b with
    | none => exact ⟨hb, rfl⟩
    | some o =>
      rw [hk, if_neg (by simp)] at q
      cases q
  · rw [if_neg hb] at q
    cases q
theorem argH_is (ar : ∀ a ∈ A, ArgOb h A a) {b : Addr} {u : HO} (q : argH K h A b = some u) : K.lookup b = none ∧ ∃ vs : List Value, vs.length ≤ sizeLine ∧ (∀ u ∈ vs, OkU A u) ∧
    ((h.get? b = some { cls := .type "list", data := .seq vs.toArray } ∧ u = .frz { cls := .type "list", data := .seq vs.toArray } (.lst (vs.map toV))) ∨
     (h.get? b = some { cls := .type "tuple", data := .seq vs.toArray } ∧ u = .frz { cls := .type "tuple", data := .seq vs.toArray } (.tup (vs.map toV)))) := by
  obtain ⟨hb, hk⟩ := of_argH q
  obtain ⟨vs, h1, h2, h3⟩ := ar b hb
  refine ⟨hk, vs, h1, h2, ?_⟩
  rcases h3 with e | e
  · rw [argH_at hb hk e, hoOf_lst] at q
    exact .inl ⟨e, (Option.some.inj q).symm⟩
  · rw [argH_at hb hk e, hoOf_tup] at q
    exact .inr ⟨e, (Option.some.inj q).symm⟩
theorem argH_only (ar : ∀ a ∈ A, ArgOb h A a) : OnlyF (argH K h A) := fun b => by
  cases q : argH K h A b with
  | none => exact .inl rfl
  | some u =>
    obtain ⟨_, vs, _, _, ⟨_, e⟩ | ⟨_, e⟩⟩ := argH_is ar q
    · exact .inr ⟨_, _, by rw [e]⟩
    · exact .inr ⟨_, _, by rw [e]⟩
theorem argH_ok (ar : ∀ a ∈ A, ArgOb h A a) : HOk P w (argH K h A) h := fun b u q => by
  obtain ⟨_, vs, h1, h2, ⟨e, rfl⟩ | ⟨e, rfl⟩⟩ := argH_is ar q
  · exact ⟨e, by rw [List.length_map]; exact h1, vs, _, vals_toV h2, e⟩
  · exact ⟨e, by rw [List.length_map]; exact h1, vs, vals_toV h2, _, e, rfl, _, rfl⟩
theorem seq_inj {c c' : Value} {vs us : List Value} (e : (some { cls := c, data := .seq vs.toArray } : Option Obj) = some { cls := c', data := .seq us.toArray }) : c = c' ∧ vs = us := by
  have e1 := Option.some.inj e
  have e2 : c = c' := congrArg Obj.cls e1
  have e3 : Data.seq vs.toArray = Data.seq us.toArray := congrArg Obj.data e1
  injection e3 with e4
  refine ⟨e2, ?_⟩
  have e5 := congrArg Array.toList e4
  simpa using e5
theorem argL (KX : K.In h) (ar : ∀ a ∈ A, ArgOb h A a) {a : Addr} {vs : List Value} (ha : a ∈ A) (e : h.get? a = some { cls := .type "list", data := .seq vs.toArray }) : (∀ u ∈ vs, OkU A u) ∧ SqL K (argH K h A) a (vs.map toV) := by
  obtain ⟨us, h1, h2, h3⟩ := ar a ha
  have hu : us = vs := by
    rcases h3 with q | q
    · rw [e] at q
      exact (seq_inj q).2.symm
    · rw [e] at q
      exact absurd (Value.type.inj (seq_inj q).1) (by decide)
  subst hu
  refine ⟨h2, ?_⟩
  cases hk : K.lookup a with
  | none => exact .inl (.inr ⟨_, by rw [argH_at ha hk e, hoOf_lst]⟩)
  | some o =>
    have e2 := KX a o hk
    rw [e] at e2
    obtain rfl := Option.some.inj e2
    exact .inr ⟨_, us.toArray, _, hk, rfl, rfl, rfl, by rw [List.size_toArray]; exact h1, by simpa using vals_toV h2⟩
theorem argT (KX : K.In h) (ar : ∀ a ∈ A, ArgOb h A a) {a : Addr} {vs : List Value} (ha : a ∈ A) (e : h.get? a = some { cls := .type "tuple", data := .seq vs.toArray }) : (∀ u ∈ vs, OkU A u) ∧ SqT K (argH K h A) a (vs.map toV) := by
  obtain ⟨us, h1, h2, h3⟩ := ar a ha
  have hu : us = vs := by
    rcases h3 with q | q
    · rw [e] at q
      exact absurd (Value.type.inj (seq_inj q).1) (by decide)
    · rw [e] at q
      exact (seq_inj q).2.symm
  subst hu
  refine ⟨h2, ?_⟩
  cases hk : K.lookup a with
  | none => exact .inl (.inr ⟨_, by rw [argH_at ha hk e, hoOf_tup]⟩)
  | some o =>
    have e2 := KX a o hk
    rw [e] at e2
    obtain rfl := Option.some.inj e2
    exact .inr ⟨_, us.toArray, _, hk, rfl, rfl, by rw [List.size_toArray]; exact h1, by simpa using vals_toV h2⟩
mutual
theorem dw_one {Pm : Params} (KX : K.In h) (ar : ∀ a ∈ A, ArgOb h A a) : ∀ (d : WData) (v : Value), Well Pm h v d → plW d = true → OkU A v → Dw K (argH K h A) (toV v) d
  | .none, _, x, _, _ => by
    cases x
    exact .non
  | .bool b, _, x, _, _ => by
    cases x
    exact .bl b
  | .int i, _, x, _, _ => by
    cases x
    exact .int i
  | .str s, _, x, _, _ => by
    cases x
    exact .str s
  | .bytes b, _, x, _, _ => by
    cases x
    have z := Dw.byt (K := K) (H := argH K h A) b.toArray
    exact z
  | .list ds, _, x, p, hu => by
    obtain ⟨a, vs, rfl, ho, hall⟩ := well_list x
    obtain ⟨h2, hs⟩ := argL KX ar hu ho
    exact .lst hs (dw_all KX ar ds _ hall p h2)
  | .tuple ds, _, x, p, hu => by
    obtain ⟨a, vs, rfl, ho, hall⟩ := well_tuple x
    obtain ⟨h2, hs⟩ := argT KX ar hu ho
    exact .tup hs (dw_all KX ar ds _ hall p h2)
  | .float _, _, _, p, _ => Bool.noConfusion (show false = true from p)
  | .dict _, _, _, p, _ => Bool.noConfusion (show false = true from p)
  | .bytearray _, _, _, p, _ => Bool.noConfusion (show false = true from p)
  | .set _, _, _, p, _ => Bool.noConfusion (show false = true from p)
  | .frozenset _, _, _, p, _ => Bool.noConfusion (show false = true from p)
  | .obj _ _, _, _, p, _ => Bool.noConfusion (show false = true from p)
theorem dw_all {Pm : Params} (KX : K.In h) (ar : ∀ a ∈ A, ArgOb h A a) : ∀ (ds : List WData) (vs : List Value), WellAll Pm h vs ds → plWs ds = true → (∀ u ∈ vs, OkU A u) → DwAll K (argH K h A) (vs.map toV) ds
  | [], _, x, _, _ => by
    cases x
    exact .nil
  | d :: ds, _, x, p, hu => by
    obtain ⟨v, vs, rfl, x1, x2⟩ := well_cons x
    have q : plW d = true ∧ plWs ds = true := Bool.and_eq_true_iff.mp p
    exact .cons (dw_one KX ar d v x1 q.1 (hu _ (List.mem_cons_self ..))) (dw_all KX ar ds vs x2 q.2 fun u m => hu u (List.mem_cons_of_mem _ m))
end
end
theorem layable_weight {ds : List WData} (h : WData.layableAll ds = true) : ∀ d ∈ ds, d.weight ≤ 1048576 := fun d hd =>
  (PySem.W.layableW_iff.mp (List.all_eq_true.mp h d hd)).2.2
theorem encAll_len : ∀ (cs : List Codec) (a : Codec.denoteAll cs), (Codec.encAll cs a).length = cs.length
  | [], _ => rfl
  | c :: cs, a => by
    show (Codec.encAll cs a.2).length + 1 = cs.length + 1
    rw [encAll_len cs a.2]
end L2
end
end
section
set_option Elab.async false
set_option linter.all false
set_option maxRecDepth 100000
set_option maxHeartbeats 2000000
namespace Ns
open PySem PySem.Spec PyProof.Rows
structure ItK (prog : Program) (w : World) (K : Type) [DecidableEq K] where
  is : Heap → K → Value → Prop
  hash : K → Int
  draws : K → Nat
  inj : ∀ {h : Heap} {v : Value} {x y : K}, is h x v → is h y v → x = y
  keeps : ∀ {h h' : Heap} {k : K} {v : Value} {d : Addr} {o : Obj} {es ep}, is h k v → h.get? d = some o → o.data = .dict es ep → Heap.SameBut d h h' → is h' k v
  pyHash : ∀ {A : Around} {E : Value → Shared → Prop} {s : Shared} {k : K} {v : Value} {Q : Int → Shared → Prop}, A.units < cLine → is s.heap k v → Q (hash k) { s with toks := s.toks + draws k } →
    wpAny (model prog w) A (PySem.pyHash v) Q E s
  eqBool : ∀ {A : Around} {E : Value → Shared → Prop} {s : Shared} {x y : K} {u v : Value} {Q : Bool → Shared → Prop}, A.units < cLine → is s.heap x u → is s.heap y v → Q (decide (x = y)) s →
    wpAny (model prog w) A (PySem.eqBool u v) Q E s
  quiet : ∀ {A : Around} {E : Value → Shared → Prop} {s : Shared} {k : K} {v : Value} {Q : Bool → Shared → Prop}, is s.heap k v → Q true s → wpAny (model prog w) A (eqIsQuiet 7 v) Q E s
section
variable {prog : Program} {w : World}
theorem quiet7_tuple {K : Type} [DecidableEq K] {knd : KeyKind prog w K} {A : Around} {E : Value → Shared → Prop} {s : Shared} {ks : List K} {a : Addr} {Q : Bool → Shared → Prop} (hk : IsTupleKey knd s.heap ks a) (h : Q true s) : wpAny (model prog w) A (eqIsQuiet 7 (.ref a)) Q E s := by
  have hT := hk.typeIs
  obtain ⟨o, items, n, ho, _, hd, hi⟩ := hk
  unfold eqIsQuiet
  refine wpAny_bind (wpAny_specialOf hT F.slot_tuple_eq.lookup ?_)
  show wpAny _ _ (isInstance (.ref a) (.type "tuple") >>= _) _ _ s
  refine wpAny_bind (wpAny_isInstance hT isSubtype_tuple_tuple ?_)
  simp only [Bool.not_true, Bool.false_eq_true, if_false]
  refine wpAny_bind (wpAny_seqItems ho hd ?_)
  refine wpAny_bind ?_
  show wpAny _ _ (forIn items _ _) _ _ s
  rw [← Array.forIn_toList]
  refine wpAny_forIn_list _ (fun rest r s' => r.1 = none ∧ s' = s ∧ ∀ v ∈ rest, carriedByValue v = true) _ ?_ ?_ _ _ ⟨rfl, rfl, hi.byValue⟩
  · rintro v rest r s' ⟨hr, rfl, hall⟩
    rw [eqIsQuiet_byValue _ (hall v List.mem_cons_self)]
    refine wpAny_bind (wpAny_pure ?_)
    simp only [Bool.not_true, Bool.false_eq_true, if_false]
    exact wpAny_pure ⟨rfl, rfl, fun u hu' => hall u (List.mem_cons_of_mem _ hu')⟩
  · rintro ⟨r1, r2⟩ s' ⟨hr, rfl, _⟩
    simp only at hr
    subst hr
    exact wpAny_pure h
def intIt (prog : Program) (w : World) : ItK prog w Int where
  is := fun _ k v => (PySem.intKind prog w).is k v = true
  hash := (PySem.intKind prog w).hash
  draws := fun _ => 1
  inj := fun hx hy => (PySem.intKind prog w).inj _ _ _ hx hy
  keeps := fun x _ _ _ => x
  pyHash := fun _ hv h => (PySem.intKind prog w).pyHash hv h
  eqBool := fun _ hx hy h => (PySem.intKind prog w).eqBool hx hy h
  quiet := fun hk h => by
    rw [eqIsQuiet_byValue _ ((PySem.intKind prog w).byValue _ _ hk)]
    exact wpAny_pure h
def wordIt (prog : Program) (w : World) : ItK prog w (List Int) where
  is := fun h k v => ∃ a, v = .ref a ∧ IsTupleKey (PySem.intKind prog w) h k a
  hash := tupleKeyHash (PySem.intKind prog w)
  draws := fun ks => ks.length + 1
  inj := fun ⟨a, e, hx⟩ ⟨b, e', hy⟩ => by
    subst e
    cases e'
    exact hx.inj hy
  keeps := fun ⟨a, e, hx⟩ ho hd hs => ⟨a, e, hx.keeps ho hd hs⟩
  pyHash := fun hu ⟨a, e, hx⟩ h => by
    subst e
    exact wpAny_pyHash_tuple hu hx h
  eqBool := fun hu ⟨a, e, hx⟩ ⟨b, e', hy⟩ h => by
    subst e e'
    exact wpAny_eqBool_tuple hu hx hy h
  quiet := fun ⟨a, e, hx⟩ h => by
    subst e
    exact quiet7_tuple hx h
variable {K1 K2 : Type} [DecidableEq K1] [DecidableEq K2] (i1 : ItK prog w K1) (i2 : ItK prog w K2)
def IsPair (h : Heap) (k : K1 × K2) (a : Addr) : Prop := ∃ o u v n, h.get? a = some o ∧ o.cls = .type "tuple" ∧ o.data = .seq #[u, v] n ∧ i1.is h k.1 u ∧ i2.is h k.2 v
variable {i1 i2}
theorem IsPair.typeIs {s : Shared} {k : K1 × K2} {a : Addr} (x : IsPair i1 i2 s.heap k a) : s.TypeIs (.ref a) "tuple" := let ⟨o, _, _, _, ho, hc, _⟩ := x; ⟨o, ho, hc⟩
theorem IsPair.inj {h : Heap} {a : Addr} {x y : K1 × K2} (hx : IsPair i1 i2 h x a) (hy : IsPair i1 i2 h y a) : x = y := by
  obtain ⟨o, u, v, n, ho, _, hd, h1, h2⟩ := hx
  obtain ⟨o', u', v', n', ho', _, hd', h1', h2'⟩ := hy
  obtain rfl : o = o' := Option.some.inj (ho.symm.trans ho')
  rw [hd] at hd'
  injection hd' with e _
  have e' := congrArg Array.toList e
  injection e' with e1 e2
  injection e2 with e2 _
  subst e1 e2
  exact Prod.ext (i1.inj h1 h1') (i2.inj h2 h2')
theorem IsPair.keeps {h h' : Heap} {k : K1 × K2} {a d : Addr} {o : Obj} {es ep} (x : IsPair i1 i2 h k a) (ho : h.get? d = some o) (hd : o.data = .dict es ep) (hs : Heap.SameBut d h h') : IsPair i1 i2 h' k a := by
  obtain ⟨o', u, v, n, ho', hc, hd', h1, h2⟩ := x
  have hne : a ≠ d := by
    rintro rfl
    obtain rfl : o' = o := Option.some.inj (ho'.symm.trans ho)
    rw [hd] at hd'; exact nomatch hd'
  exact ⟨o', u, v, n, (hs.2 a hne).trans ho', hc, hd', i1.keeps h1 ho hd hs, i2.keeps h2 ho hd hs⟩
def pairHash (i1 : ItK prog w K1) (i2 : ItK prog w K2) (k : K1 × K2) : Int := reduceHash (Builtin.Tuple.tupleHashOf [i1.hash k.1, i2.hash k.2])
variable {A : Around} {E : Value → Shared → Prop} {s : Shared}
theorem hash_pair {k : K1 × K2} {a : Addr} {Q : Int → Shared → Prop} (hu : A.units + 4 < cLine) (hk : IsPair i1 i2 s.heap k a) (h : Q (pairHash i1 i2 k) { s with toks := s.toks + (i1.draws k.1 + i2.draws k.2 + 1) }) :
    wpAny (model prog w) A (pyHash (.ref a)) Q E s := by
  have hT := hk.typeIs
  obtain ⟨o, u, v, n, ho, _, hd, h1, h2⟩ := hk
  have hu1 : A.in1.units < cLine := by show A.units + 1 < cLine; omega
  unfold pyHash
  first | unfold pyHashByItsType | skip
  first | refine wpAny_bind (wpAny_cRoomFor_or (.inr (by omega)) ?_) | skip
  refine wpAny_bind (wpAny_specialOf hT F.slot_tuple_hash.lookup ?_)
  show wpAny _ _ (if (some (Value.builtin "tuple.__hash__") == some Value.none) = true then _ else _) Q E s
  rw [if_neg (by rw [beq_builtin_none]; exact Bool.false_ne_true)]
  refine wpAny_bind (wpAny_specialOf hT F.slot_tuple_hash.lookup ?_)
  show wpAny _ _ (callSpecialIfBoundUnlessNone? (.ref a) "__hash__" _ >>= _) Q E s
  refine wpAny_bind (wpAny_callSpecialIfBoundUnlessNone?_slot hT F.slot_tuple_hash (wpAny_call_entry F.slot_tuple_hash hT F.entry_tuple_hash ?_ (F.args_tuple_hash_1 _)))
  show wpAny _ _ (Builtin.Tuple.tupleItemsOf (.ref a) >>= _) _ _ s
  refine wpAny_bind (wpAny_tupleItemsOf ho hd ?_)
  refine wpAny_bind ?_
  rw [← Array.forIn_toList]
  show wpAny _ _ (forIn [u, v] _ _) _ _ s
  rw [List.forIn_cons]
  refine wpAny_bind (wpAny_bind (i1.pyHash hu1 h1 ?_))
  refine wpAny_pure ?_
  show wpAny _ _ (forIn [v] _ _) _ _ _
  rw [List.forIn_cons]
  refine wpAny_bind (wpAny_bind (i2.pyHash (s := { s with toks := s.toks + i1.draws k.1 }) hu1 h2 ?_))
  refine wpAny_pure ?_
  show wpAny _ _ (forIn [] _ _) _ _ _
  rw [List.forIn_nil]
  refine wpAny_pure ?_
  show wpAny _ _ (retInt (Builtin.Tuple.tupleHashOf [i1.hash k.1, i2.hash k.2])) _ _ _
  refine wpAny_ret_mkInt ?_
  show wpAny _ _ (if (decide (-(2 : Int) ^ 63 ≤ Builtin.Tuple.tupleHashOf [i1.hash k.1, i2.hash k.2]) && decide (Builtin.Tuple.tupleHashOf [i1.hash k.1, i2.hash k.2] < 2 ^ 63)) = true then _ else _) Q E _
  unfold pairHash reduceHash at h
  have et : s.toks + (i1.draws k.1 + i2.draws k.2 + 1) = s.toks + i1.draws k.1 + i2.draws k.2 + 1 := by omega
  rw [et] at h
  by_cases hr : (decide (-(2 : Int) ^ 63 ≤ Builtin.Tuple.tupleHashOf [i1.hash k.1, i2.hash k.2]) && decide (Builtin.Tuple.tupleHashOf [i1.hash k.1, i2.hash k.2] < 2 ^ 63)) = true
  · rw [if_pos hr]
    rw [if_pos hr] at h
    exact wpAny_pure h
  · rw [if_neg hr]
    rw [if_neg hr] at h
    exact wpAny_bind (wpAny_rule (wpAny_pure h))
theorem pair_eq_tree {x y : K1 × K2} {a b : Addr} {P : PySem.Fin → Shared → Prop} (hu : A.units < cLine) (hx : IsPair i1 i2 s.heap x a) (hy : IsPair i1 i2 s.heap y b) (h : P (.done (.ret (.bool (decide (x = y))))) s) :
    wpAny (model prog w) A (Builtin.«tuple.__eq__» ⟨[.ref a, .ref b], []⟩) P E s := by
  have hTb := hy.typeIs
  obtain ⟨oa, u, v, na, hoa, _, hda, h1, h2⟩ := hx
  obtain ⟨ob, u', v', nb, hob, _, hdb, h1', h2'⟩ := hy
  show wpAny _ _ (isInstance (.ref b) (.type "tuple") >>= _) _ _ s
  refine wpAny_bind (wpAny_isInstance hTb isSubtype_tuple_tuple ?_)
  simp only [Bool.not_true, Bool.false_eq_true, if_false]
  refine wpAny_bind (wpAny_tupleItemsOf hoa hda ?_)
  refine wpAny_bind (wpAny_tupleItemsOf hob hdb ?_)
  refine wpAny_bind ?_
  show wpAny _ _ (forIn [(u, u'), (v, v')] _ _) _ _ s
  rw [List.forIn_cons]
  refine wpAny_bind (wpAny_bind (i1.eqBool hu h1 h1' ?_))
  by_cases e1 : x.1 = y.1
  · rw [decide_eq_true e1]
    simp only [Bool.not_true, Bool.false_eq_true, if_false]
    refine wpAny_pure ?_
    show wpAny _ _ (forIn [(v, v')] _ _) _ _ s
    rw [List.forIn_cons]
    refine wpAny_bind (wpAny_bind (i2.eqBool hu h2 h2' ?_))
    by_cases e2 : x.2 = y.2
    · rw [decide_eq_true e2]
      simp only [Bool.not_true, Bool.false_eq_true, if_false]
      refine wpAny_pure ?_
      show wpAny _ _ (forIn [] _ _) _ _ s
      rw [List.forIn_nil]
      refine wpAny_pure (wpAny_pure ?_)
      have e : x = y := Prod.ext e1 e2
      rw [decide_eq_true e] at h
      exact h
    · rw [decide_eq_false e2]
      simp only [Bool.not_false, if_true]
      have e : ¬ x = y := fun z => e2 (congrArg Prod.snd z)
      rw [decide_eq_false e] at h
      exact wpAny_bind (wpAny_pure (wpAny_pure (wpAny_pure (wpAny_pure h))))
  · rw [decide_eq_false e1]
    simp only [Bool.not_false, if_true]
    have e : ¬ x = y := fun z => e1 (congrArg Prod.fst z)
    rw [decide_eq_false e] at h
    exact wpAny_bind (wpAny_pure (wpAny_pure (wpAny_pure (wpAny_pure h))))
theorem eqBool_pair {x y : K1 × K2} {a b : Addr} {Q : Bool → Shared → Prop} (hu : A.units + 4 < cLine) (hx : IsPair i1 i2 s.heap x a) (hy : IsPair i1 i2 s.heap y b) (h : Q (decide (x = y)) s) :
    wpAny (model prog w) A (eqBool (.ref a) (.ref b)) Q E s := by
  unfold eqBool
  try with_reducible refine wpAny_holding ?_
  show wpAny _ _ (if (Value.ref a == Value.ref b) = true then _ else _) Q E s
  by_cases hab : (Value.ref a == Value.ref b) = true
  · rw [if_pos hab]
    have e : a = b := by have := eq_of_beq hab; injection this
    subst e
    obtain rfl := hx.inj hy
    exact wpAny_bind (wpAny_rule (wpAny_pure (by simpa using h)))
  · rw [if_neg hab]
    exact wpAny_bind (wpAny_richCompare_same_room (op := .Eq) hx.typeIs hy.typeIs F.slot_tuple_eq
      (wpAny_call_entry F.slot_tuple_eq hx.typeIs F.entry_tuple_eq (pair_eq_tree (by show A.units + 1 < cLine; omega) hx hy ⟨_, rfl, (fun e => nomatch e), wpAny_truthy_bool h⟩) (F.args_tuple_eq_2 _ _)) (by omega))
theorem quiet_pair {k : K1 × K2} {a : Addr} {Q : Bool → Shared → Prop} (hk : IsPair i1 i2 s.heap k a) (h : Q true s) : wpAny (model prog w) A (eqIsQuiet 8 (.ref a)) Q E s := by
  have hT := hk.typeIs
  obtain ⟨o, u, v, n, ho, _, hd, h1, h2⟩ := hk
  unfold eqIsQuiet
  refine wpAny_bind (wpAny_specialOf hT F.slot_tuple_eq.lookup ?_)
  show wpAny _ _ (isInstance (.ref a) (.type "tuple") >>= _) _ _ s
  refine wpAny_bind (wpAny_isInstance hT isSubtype_tuple_tuple ?_)
  simp only [Bool.not_true, Bool.false_eq_true, if_false]
  refine wpAny_bind (wpAny_seqItems ho hd ?_)
  refine wpAny_bind ?_
  show wpAny _ _ (forIn #[u, v] _ _) _ _ s
  rw [← Array.forIn_toList]
  show wpAny _ _ (forIn [u, v] _ _) _ _ s
  rw [List.forIn_cons]
  refine wpAny_bind (wpAny_bind (i1.quiet h1 ?_))
  simp only [Bool.not_true, Bool.false_eq_true, if_false]
  refine wpAny_pure ?_
  show wpAny _ _ (forIn [v] _ _) _ _ s
  rw [List.forIn_cons]
  refine wpAny_bind (wpAny_bind (i2.quiet h2 ?_))
  simp only [Bool.not_true, Bool.false_eq_true, if_false]
  refine wpAny_pure ?_
  show wpAny _ _ (forIn [] _ _) _ _ s
  rw [List.forIn_nil]
  exact wpAny_pure (wpAny_pure h)
end
def pairKind {prog : Program} {w : World} {K1 K2 : Type} [DecidableEq K1] [DecidableEq K2] (i1 : ItK prog w K1) (i2 : ItK prog w K2) : HeapKind prog w (K1 × K2) where
  is := IsPair i1 i2
  hash := pairHash i1 i2
  draws := fun k => i1.draws k.1 + i2.draws k.2 + 1
  room := fun A => A.units + 4 < cLine
  inj := fun hx hy => hx.inj hy
  keeps := fun x ho hd hs => x.keeps ho hd hs
  pyHash := fun hu hk h => hash_pair hu hk h
  eqBool := fun hu hx hy h => eqBool_pair hu hx hy h
  quiet := fun hk h => quiet_pair hk h
end Ns
end
section
set_option Elab.async false
set_option linter.all false
set_option maxRecDepth 100000
set_option maxHeartbeats 2000000
namespace Ns
open PySem PySem.Spec PyProof.Rows L2
structure ItV (P : Program) (w : World) (K : Type) [DecidableEq K] where
  it : ItK P w K
  at_ : Hp → K → V → Prop
  ok : ∀ {H : Hp} {h : Heap} {k : K} {v : V} {u : Value}, HOk P w H h → at_ H k v → RelV v u → it.is h k u
  keep : ∀ {H H' : Hp} {k : K} {v : V}, (∀ b ys, H b = some (.tup ys) → H' b = some (.tup ys)) → at_ H k v → at_ H' k v
theorem tupInt_items {P : Program} {w : World} : ∀ {ks : List Int} {its : List Value}, Vals (ks.map V.int) its → ItemsAre (PySem.intKind P w) ks its
  | [], _, .nil => .nil
  | k :: ks, _, .cons r t => by
    obtain ⟨tk, e⟩ := (show ∃ t, _ = Value.int k t from r)
    refine .cons ?_ (tupInt_items t)
    subst e
    show Value.isInt k (.int k tk) = true
    simp [Value.isInt]
def iInt (P : Program) (w : World) : ItV P w Int where
  it := intIt P w
  at_ := fun _ k v => v = .int k
  ok := fun {H h k v u} _ e r => by
    subst e
    obtain ⟨t, e⟩ := (show ∃ t, u = Value.int k t from r)
    subst e
    show Value.isInt k (.int k t) = true
    simp [Value.isInt]
  keep := fun _ e => e
def iWord (P : Program) (w : World) : ItV P w (List Int) where
  it := wordIt P w
  at_ := fun H k v => ∃ b, v = .ref b ∧ H b = some (.tup (k.map V.int))
  ok := fun {H h k v u} hok ⟨b, e, hb⟩ r => by
    subst e
    obtain rfl : u = Value.ref b := r
    obtain ⟨_, its, rv, o, h1, h2, n, h3⟩ := (show ObjOk P w H h b (.tup (k.map V.int)) from hok b _ hb)
    exact ⟨b, rfl, o, its.toArray, n, h1, h2, h3, by simpa using tupInt_items rv⟩
  keep := fun ht ⟨b, e, hb⟩ => ⟨b, e, ht _ _ hb⟩
section
variable {P : Program} {w : World} {K1 K2 : Type} [DecidableEq K1] [DecidableEq K2] (i1 : ItV P w K1) (i2 : ItV P w K2)
def PairAt (H : Hp) (k : K1 × K2) (a : Addr) : Prop := ∃ u v, H a = some (.tup [u, v]) ∧ i1.at_ H k.1 u ∧ i2.at_ H k.2 v
def dnO (a : Addr) (xs : List ((K1 × K2) × Addr × Value)) : HO := .ext fun h => ∃ o es ep, h.get? a = some o ∧ o.ExactDict ∧ o.data = .dict es ep ∧ es.toList = xs.map (entryOfKey (pairKind i1.it i2.it)) ∧ (xs.map (·.1)).Nodup
def DnAt (H : Hp) (a : Addr) (ks : List (K1 × K2)) : Prop := ∃ xs : List ((K1 × K2) × Addr), ks = xs.map (·.1) ∧ xs.length ≤ sizeLine ∧ (a == sysModules) = false ∧ H a = some (dnO i1 i2 a (xs.map fun x => (x.1, x.2, Value.bool true))) ∧ ∀ x ∈ xs, PairAt i1 i2 H x.1 x.2
variable {i1 i2}
theorem PairAt.keep {H H' : Hp} {k : K1 × K2} {a : Addr} (x : PairAt i1 i2 H k a) (ht : ∀ b ys, H b = some (.tup ys) → H' b = some (.tup ys)) : PairAt i1 i2 H' k a := by
  obtain ⟨u, v, h1, h2, h3⟩ := x
  exact ⟨u, v, ht _ _ h1, i1.keep ht h2, i2.keep ht h3⟩
theorem PairAt.is {H : Hp} {h : Heap} {k : K1 × K2} {a : Addr} (x : PairAt i1 i2 H k a) (hok : HOk P w H h) : (pairKind i1.it i2.it).is h k a := by
  obtain ⟨u, v, h1, h2, h3⟩ := x
  obtain ⟨_, its, rv, o, e1, e2, n, e3⟩ := (show ObjOk P w H h a (.tup [u, v]) from hok a _ h1)
  match its, rv with
  | [u', v'], .cons r1 (.cons r2 .nil) => exact ⟨o, u', v', n, e1, e2, e3, i1.ok hok h2 r1, i2.ok hok h3 r2⟩
theorem DnAt.keep {H H' : Hp} {a : Addr} {ks : List (K1 × K2)} (x : DnAt i1 i2 H a ks) (ht : ∀ b ys, H b = some (.tup ys) → H' b = some (.tup ys)) (ha : ∀ φ, H a = some (.ext φ) → H' a = some (.ext φ)) : DnAt i1 i2 H' a ks := by
  obtain ⟨xs, e, z, hs, h1, h2⟩ := x
  exact ⟨xs, e, z, hs, ha _ h1, fun x hx => (h2 x hx).keep ht⟩
theorem DnAt.same {H H' : Hp} {a : Addr} {ks : List (K1 × K2)} (x : DnAt i1 i2 H a ks) (s : Same H H') : DnAt i1 i2 H' a ks := x.keep (fun _ _ e => s _ _ e) fun _ e => s _ _ e
theorem DnAt.ext {H : Hp} {a : Addr} {ks : List (K1 × K2)} (x : DnAt i1 i2 H a ks) : ∃ φ, H a = some (.ext φ) := by
  obtain ⟨xs, _, _, _, h1, _⟩ := x
  exact ⟨_, h1⟩
theorem dn_dict {H : Hp} {h : Heap} {a : Addr} {xs : List ((K1 × K2) × Addr)} (hok : HOk P w H h) (h1 : H a = some (dnO i1 i2 a (xs.map fun x => (x.1, x.2, Value.bool true)))) (h2 : ∀ x ∈ xs, PairAt i1 i2 H x.1 x.2) :
    h.DictOfH (pairKind i1.it i2.it) a (xs.map fun x => (x.1, x.2, Value.bool true)) := by
  obtain ⟨⟨o, es, ep, e1, e2, e3, e4, e5⟩, _⟩ := (show ObjOk P w H h a (dnO i1 i2 a (xs.map fun x => (x.1, x.2, Value.bool true))) from hok a _ h1)
  refine ⟨o, es, ep, e1, e2, e3, e4, fun x hx => ?_, e5⟩
  obtain ⟨y, hy, rfl⟩ := List.mem_map.mp hx
  exact (h2 y hy).is hok
theorem dnO_ok {H : Hp} {h : Heap} {a : Addr} {xs : List ((K1 × K2) × Addr × Value)} (d : h.DictOfH (pairKind i1.it i2.it) a xs) : ObjOk P w H h a (dnO i1 i2 a xs) := by
  obtain ⟨o, es, ep, e1, e2, e3, e4, _, e5⟩ := d
  refine ⟨⟨o, es, ep, e1, e2, e3, e4, e5⟩, ⟨o, e1⟩, ?_⟩
  rintro h1 h2 ⟨o, es, ep, e1, r⟩ k
  exact ⟨o, es, ep, k _ e1, r⟩
theorem at_mem {xs : List ((K1 × K2) × Addr)} {k : K1 × K2} : (atKey (xs.map fun x => (x.1, x.2, Value.bool true)) k).isSome = decide (k ∈ xs.map (·.1)) := by
  induction xs with
  | nil => simp [atKey]
  | cons x r ih =>
    by_cases e : x.1 = k
    · have : k ∈ (x :: r).map (·.1) := by rw [List.map_cons, e]; exact List.mem_cons_self
      rw [decide_eq_true this]
      simp [atKey, List.find?_cons, e]
    · have h1 : atKey ((x :: r).map fun x => (x.1, x.2, Value.bool true)) k = atKey (r.map fun x => (x.1, x.2, Value.bool true)) k := by simp [atKey, List.find?_cons, e]
      rw [h1, ih]
      have h2 : (k ∈ (x :: r).map (·.1)) ↔ k ∈ r.map (·.1) := by
        rw [List.map_cons, List.mem_cons]
        exact ⟨fun z => z.elim (fun q => absurd q.symm e) id, .inr⟩
      by_cases h3 : k ∈ r.map (·.1)
      · rw [decide_eq_true h3, decide_eq_true (h2.mpr h3)]
      · rw [decide_eq_false h3, decide_eq_false (fun z => h3 (h2.mp z))]
end
section
variable {X : Cx} {K1 K2 : Type} [DecidableEq K1] [DecidableEq K2] {i1 : ItV X.prog X.w K1} {i2 : ItV X.prog X.w K2} {i o value : Expr} {ty td tv : TE} {pos pos' : Pos}
def tDn (i1 : ItV X.prog X.w K1) (i2 : ItV X.prog X.w K2) : TE := fun _ H Q => ∀ p H', H p = none → DnAt i1 i2 H' p [] → (∀ b, b ≠ p → H' b = H b) → Q (.ref p) H'
theorem pe_dnewN (i1 : ItV X.prog X.w K1) (i2 : ItV X.prog X.w K2) : PE X (.Dict [] [] pos) (tDn i1 i2) := fun pins s σ H Q I h => by
  have hf : H s.heap.objs.size = none := I.hok.fresh (Nat.le_refl _)
  have hs : (s.heap.objs.size == sysModules) = false := by
    have := I.big
    exact beq_eq_false_iff_ne.mpr (Nat.ne_of_gt this)
  refine wpAny_Dict_empty ⟨.ref s.heap.objs.size, upd H s.heap.objs.size (dnO i1 i2 s.heap.objs.size []), I.laid (a := s.heap.objs.size) (t' := s.toks) (fun _ _ q => Heap.get?_push_of_some _ q) (Nat.le_refl _) ?_, rfl, ?_⟩
  · refine dnO_ok ⟨_, #[], 0, Heap.get?_push_size _ rfl, ?_, rfl, rfl, (fun x hx => absurd hx List.not_mem_nil), List.nodup_nil⟩
    exact ⟨rfl, rfl, rfl⟩
  · exact h _ _ hf ⟨[], rfl, Nat.zero_le _, hs, upd_same, fun x hx => nomatch hx⟩ fun b hb => upd_ne hb
def tDnIn (i1 : ItV X.prog X.w K1) (i2 : ItV X.prog X.w K2) (ty td : TE) : TE := fun σ H Q => ty σ H fun y H1 => td σ H1 fun x H2 => ∃ a b k ks, x = .ref a ∧ y = .ref b ∧ DnAt i1 i2 H2 a ks ∧ PairAt i1 i2 H2 k b ∧ ∀ r : Bool, (r = true ↔ k ∈ ks) → Q (.bl r) H2
theorem pc_dnin (i1 : ItV X.prog X.w K1) (i2 : ItV X.prog X.w K2) (hu : X.A.units + 16 < cLine) (hi : PE X i ty) (ho : PE X o td) : PC X .In i o (tDnIn i1 i2 ty td) := by
  intro pins s σ H Q I h
  refine thn (hi pins s σ H _ I h) fun iv s1 ⟨y, H1, I1, ry, q1⟩ => thn (ho pins s1 σ H1 _ I1 q1) fun u s2 ⟨x, H2, I2, rx, a, b, k, ks, ex, ey, hd, hk, q2⟩ => ?_
  subst ex ey
  obtain rfl : u = Value.ref a := rx
  obtain rfl : iv = Value.ref b := ry
  obtain ⟨xs, rfl, z, hs, h1, h2⟩ := hd
  refine wpAny_in_heap (knd := pairKind i1.it i2.it) (by show X.A.units + 1 + 4 < cLine; omega) (hk.is I2.hok) hs (dn_dict I2.hok h1 h2) ?_
  rw [at_mem]
  exact ⟨.bl _, H2, I2.tok _, rfl, q2 _ decide_eq_true_iff⟩
def sDnPut (i1 : ItV X.prog X.w K1) (i2 : ItV X.prog X.w K2) (td ty tv : TE) : TS := fun D σ H => tv σ H fun v H1 => td σ H1 fun x H2 => ty σ H2 fun y H3 => ∃ a b k ks, v = .bl true ∧ x = .ref a ∧ y = .ref b ∧ DnAt i1 i2 H3 a ks ∧ PairAt i1 i2 H3 k b ∧ k ∉ ks ∧ ks.length < sizeLine ∧
  ∀ H4, DnAt i1 i2 H4 a (ks ++ [k]) → (∀ c, c ≠ a → H4 c = H3 c) → D.nx σ H4
theorem ps_dnput (i1 : ItV X.prog X.w K1) (i2 : ItV X.prog X.w K2) (hu : X.A.units + 16 < cLine) (ho : PE X o td) (hi : PE X i ty) (hv : PE X value tv) (hs : swapsWith value (some (.Subscript o i pos')) pos.line X.env = pure false) :
    PS X (.Assign [.Subscript o i pos'] value pos) (sDnPut i1 i2 td ty tv) := by
  intro pins s σ H D I h
  refine wpAny_Assign_Subscript (thn (hv pins s σ H _ I h) fun r s1 ⟨v, H1, I1, rv, q1⟩ => thn (ho pins s1 σ H1 _ I1 q1) fun u s2 ⟨x, H2, I2, rx, q2⟩ => thn (hi pins s2 σ H2 _ I2 q2) fun iv s3 ⟨y, H3, I3, ry, a, b, k, ks, ev, ex, ey, hd, hk, hn, hl, q3⟩ => ?_) hs
  subst ex ey ev
  obtain rfl : u = Value.ref a := rx
  obtain rfl : iv = Value.ref b := ry
  obtain rfl : r = Value.bool true := rv
  obtain ⟨xs, rfl, z, hs, h1, h2⟩ := hd
  have dd := dn_dict I3.hok h1 h2
  have hnone : atKey (xs.map fun x => (x.1, x.2, Value.bool true)) k = none := by
    have e := at_mem (xs := xs) (k := k)
    rw [decide_eq_false hn] at e
    cases q : atKey (xs.map fun x => (x.1, x.2, Value.bool true)) k with
    | none => rfl
    | some p => rw [q] at e; cases e
  have hkb := hk
  refine wpAny_setItem_heap (knd := pairKind i1.it i2.it) (hsz := by rw [List.length_map]; exact z) (by show X.A.units + 1 + 4 < cLine; omega) (hk.is I3.hok) dd fun h' dd' hs' => ?_
  rw [storedH_new hnone] at dd'
  have e5 : (xs.map fun x => (x.1, x.2, Value.bool true)) ++ [(k, b, Value.bool true)] = (xs ++ [(k, b)]).map fun x => (x.1, x.2, Value.bool true) := by rw [List.map_append]; rfl
  rw [e5] at dd'
  obtain ⟨q, _, _, hq, _⟩ := id dd'
  have I4 : Inv X pins σ (upd H3 a (dnO i1 i2 a ((xs ++ [(k, b)]).map fun x => (x.1, x.2, Value.bool true)))) { s3 with heap := h', toks := s3.toks + (pairKind i1.it i2.it).draws k } :=
    d_write I3 (by rw [h1]; exact True.intro) hs' ⟨q, hq⟩ (dnO_ok dd')
  have ht : ∀ c ys, H3 c = some (.tup ys) → upd H3 a (dnO i1 i2 a ((xs ++ [(k, b)]).map fun x => (x.1, x.2, Value.bool true))) c = some (.tup ys) := fun c ys e => by
    rw [upd_ne (ne_of e h1 (fun z => nomatch z))]; exact e
  refine ⟨σ, _, I4, q3 _ ⟨xs ++ [(k, b)], by rw [List.map_append]; rfl, by rw [List.length_append]; rw [List.length_map] at hl; exact hl, hs, upd_same, fun x hx => ?_⟩ fun c hc => upd_ne hc⟩
  rcases List.mem_append.mp hx with m | m
  · exact (h2 x m).keep ht
  · rw [List.mem_singleton.mp m]; exact hkb.keep ht
end
end Ns
end
section
set_option Elab.async false
set_option linter.all false
set_option maxRecDepth 100000
set_option maxHeartbeats 2000000
namespace Ns
open PySem PySem.Spec PyProof.Rows L2
def natsV (l : List Nat) : List V := l.map fun (j : Nat) => V.int (j : Int)
def lt3 (kc kd : Nat → Int) (i j : Nat) : Prop := kc i < kc j ∨ (kc i = kc j ∧ (kd i < kd j ∨ (kd i = kd j ∧ i < j)))
def sh0 : Nat → Bool := fun _ => false
def key3 (a b c : Int) : List (Int ⊕ List Nat) := [Sum.inl a, Sum.inl b, Sum.inl c]
theorem lex3 {a b c a' b' c' : Int} (h : PyProof.Rows.lexLt itemOrd (key3 a b c) (key3 a' b' c') = false) : ¬ (a < a' ∨ (a = a' ∧ (b < b' ∨ (b = b' ∧ c < c')))) := by
  unfold key3 at h
  have e : ∀ x y : Int, itemOrd.blt (Sum.inl x) (Sum.inl y) = decide (x < y) := fun _ _ => rfl
  obtain ⟨h1, h2⟩ := (lex_false (O := itemOrd)).mp h
  rw [e] at h1 h2
  have h1 := of_decide_eq_false h1
  rcases h2 with h2 | h2
  · have h2 := of_decide_eq_true h2
    omega
  obtain ⟨h3, h4⟩ := (lex_false (O := itemOrd)).mp h2
  rw [e] at h3 h4
  have h3 := of_decide_eq_false h3
  rcases h4 with h4 | h4
  · have h4 := of_decide_eq_true h4
    omega
  obtain ⟨h5, _⟩ := (lex_false (O := itemOrd)).mp h4
  rw [e] at h5
  have h5 := of_decide_eq_false h5
  omega
theorem vals_nats_get {l : List Nat} {its : List Value} (r : Vals (natsV l) its) {j : Nat} {v : Value} (h : its[j]? = some v) : ∃ (k : Nat) (t : Tok), l[j]? = some k ∧ v = .int (k : Int) t := by
  have hl := r.length
  have hj : j < its.length := (List.getElem?_eq_some_iff.mp h).1
  have hj2 : j < l.length := by unfold natsV at hl; rw [List.length_map] at hl; omega
  have e1 : (natsV l)[j]? = some (.int ((l[j] : Nat) : Int)) := by unfold natsV; rw [List.getElem?_map, List.getElem?_eq_getElem hj2]; rfl
  obtain ⟨u, e2, r2⟩ := r.get e1
  rw [h] at e2
  cases e2
  obtain ⟨t, e3⟩ := (show ∃ t, v = Value.int ((l[j] : Nat) : Int) t from r2)
  exact ⟨l[j], t, List.getElem?_eq_getElem hj2, e3⟩
theorem sort_out {hp : Heap} {n : Nat} {kc kd : Nat → Int} {ks : List Addr} {its : List Value} {xs : Array Keyed} (rv : Vals (natsV (List.range n)) its) (hlen : ks.length = n)
    (hk : ∀ j k, ks[j]? = some k → G.tupKeyC hp sh0 (.ref k) = some (key3 (kc j) (kd j) (j : Int))) (hp1 : xs.Perm ((ks.map Value.ref).toArray.zip its.toArray)) (hs : SortedToK (G.tupKindC hp sh0) xs xs.size) :
    ∃ out : List Nat, out.Perm (List.range n) ∧ Vals (natsV out) (xs.map (·.2)).toList ∧ out.Pairwise fun i j => ¬ lt3 kc kd j i := by
  have hl : its.length = n := by have := rv.length; unfold natsV at this; rw [List.length_map, List.length_range] at this; exact this.symm
  have hz : ((ks.map Value.ref).toArray.zip its.toArray).toList = (ks.map Value.ref).zip its := by simp
  have hpl : xs.toList.Perm ((ks.map Value.ref).zip its) := by rw [← hz]; exact Array.perm_iff_toList_perm.mp hp1
  have one : ∀ j p, ((ks.map Value.ref).zip its)[j]? = some p → ∃ t, p.2 = .int (j : Int) t ∧ G.tupKeyC hp sh0 p.1 = some (key3 (kc j) (kd j) (j : Int)) := fun j p h => by
    rw [List.getElem?_zip_eq_some] at h
    obtain ⟨h1, h2⟩ := h
    rw [List.getElem?_map] at h1
    cases e : ks[j]? with
    | none => rw [e] at h1; cases h1
    | some k =>
      rw [e] at h1
      have e1 : Value.ref k = p.1 := Option.some.inj h1
      obtain ⟨m, t, q1, q2⟩ := vals_nats_get rv h2
      have hj : j < n := by have := (List.getElem?_eq_some_iff.mp q1).1; rw [List.length_range] at this; exact this
      rw [List.getElem?_range hj] at q1
      cases q1
      exact ⟨t, q2, by rw [← e1]; exact hk j k e⟩
  have mem : ∀ p ∈ xs.toList, ∃ (j : Nat) (t : Tok), p.2 = .int (j : Int) t ∧ G.tupKeyC hp sh0 p.1 = some (key3 (kc j) (kd j) (j : Int)) := fun p hm => by
    have hm2 := hpl.mem_iff.mp hm
    obtain ⟨j, hj⟩ := List.getElem?_of_mem hm2
    obtain ⟨t, h1, h2⟩ := one j p hj
    exact ⟨j, t, h1, h2⟩
  refine ⟨xs.toList.map fun p => (numOf p.2).toNat, ?_, ?_, ?_⟩
  · have h1 := hpl.map fun p => (numOf p.2).toNat
    have e : ((ks.map Value.ref).zip its).map (fun p => (numOf p.2).toNat) = List.range n := by
      refine List.ext_getElem? fun j => ?_
      rw [List.getElem?_map]
      by_cases hj : j < n
      · have hj' : j < ((ks.map Value.ref).zip its).length := by rw [List.length_zip, List.length_map]; omega
        have ep := List.getElem?_eq_getElem hj'
        obtain ⟨t, q, _⟩ := one j _ ep
        rw [ep, List.getElem?_range hj, Option.map_some, q]
        rfl
      · rw [List.getElem?_eq_none (by rw [List.length_zip, List.length_map]; omega), List.getElem?_eq_none (by rw [List.length_range]; omega)]
        rfl
    rw [e] at h1
    exact h1
  · have all : ∀ l : List Keyed, (∀ p ∈ l, ∃ (j : Nat) (t : Tok), p.2 = .int (j : Int) t) → Vals (natsV (l.map fun p => (numOf p.2).toNat)) (l.map (·.2)) := by
      intro l
      induction l with
      | nil => intro _; exact .nil
      | cons p r ih =>
        intro h
        obtain ⟨j, t, e⟩ := h p List.mem_cons_self
        refine .cons ?_ (ih fun q hq => h q (List.mem_cons_of_mem _ hq))
        show RelV (.int (((numOf p.2).toNat : Nat) : Int)) p.2
        rw [e]
        exact ⟨t, rfl⟩
    rw [Array.toList_map]
    exact all _ fun p hp => let ⟨j, t, e, _⟩ := mem p hp; ⟨j, t, e⟩
  · rw [List.pairwise_map, List.pairwise_iff_getElem]
    intro i j hi hj hij
    have hi' : i < xs.size := by simpa using hi
    have hj' : j < xs.size := by simpa using hj
    have q := hs i j (Nat.le_of_lt hij) hj'
    obtain ⟨a, t, e1, e2⟩ := mem xs.toList[i] (List.getElem_mem hi)
    obtain ⟨b, u, e3, e4⟩ := mem xs.toList[j] (List.getElem_mem hj)
    have k1 : KK (G.tupKindC hp sh0) xs i = key3 (kc a) (kd a) (a : Int) := by
      unfold KK
      rw [Array.getElem?_eq_getElem hi']
      show (G.tupKeyC hp sh0 xs[i].1).getD [] = _
      rw [show xs[i] = xs.toList[i] by simp, e2]
      rfl
    have k2 : KK (G.tupKindC hp sh0) xs j = key3 (kc b) (kd b) (b : Int) := by
      unfold KK
      rw [Array.getElem?_eq_getElem hj']
      show (G.tupKeyC hp sh0 xs[j].1).getD [] = _
      rw [show xs[j] = xs.toList[j] by simp, e4]
      rfl
    rw [k1, k2] at q
    have q2 := lex3 (show PyProof.Rows.lexLt itemOrd (key3 (kc b) (kd b) (b : Int)) (key3 (kc a) (kd a) (a : Int)) = false from q)
    rw [e1, e3]
    show ¬ lt3 kc kd ((b : Int).toNat) ((a : Int).toNat)
    rw [Int.toNat_natCast, Int.toNat_natCast]
    unfold lt3
    omega
section
variable {X : Cx} {pins : List (Addr × Obj)} {σ : L2.St} {H : Hp} {s : Shared}
theorem tup3_key {P : Program} {w : World} {H : Hp} {h : Heap} {k : Addr} {a b c : Int} (hok : HOk P w H h) (e : H k = some (.tup [.int a, .int b, .int c])) :
    G.tupKeyC h sh0 (.ref k) = some (key3 a b c) ∧ ∃ f, TupOf h sh0 (.ref k) f := by
  obtain ⟨_, its, rv, o, h1, h2, n, h3⟩ := (show ObjOk P w H h k (.tup [.int a, .int b, .int c]) from hok k _ e)
  match its, rv with
  | [u1, u2, u3], .cons r1 (.cons r2 (.cons r3 .nil)) =>
    obtain ⟨t1, e1⟩ := (show ∃ t, u1 = Value.int a t from r1)
    obtain ⟨t2, e2⟩ := (show ∃ t, u2 = Value.int b t from r2)
    obtain ⟨t3, e3⟩ := (show ∃ t, u3 = Value.int c t from r3)
    subst e1 e2 e3
    refine ⟨?_, .int a t1, k, o, _, n, rfl, h1, h2, h3, rfl, fun _ => ⟨a, t1, rfl⟩, fun z => Bool.noConfusion (show false = true from z)⟩
    unfold G.tupKeyC
    have hc : G.isTupObj h (.ref k) = true := by simp [G.isTupObj, h1, h2]
    rw [if_pos hc]
    simp only [tupKey, h1, h3]
    rfl
theorem tups_of {P : Program} {w : World} {H : Hp} {h : Heap} (hok : HOk P w H h) : ∀ {ks : List Addr}, (∀ k ∈ ks, ∃ a b c, H k = some (.tup [.int a, .int b, .int c])) → ∃ fs, TupsOf h sh0 (ks.map Value.ref) fs
  | [], _ => ⟨[], .nil⟩
  | k :: r, hk => by
    obtain ⟨a, b, c, e⟩ := hk k List.mem_cons_self
    obtain ⟨_, f, hf⟩ := tup3_key hok e
    obtain ⟨fs, hfs⟩ := tups_of hok (ks := r) fun x hx => hk x (List.mem_cons_of_mem _ hx)
    exact ⟨f :: fs, .cons hf hfs⟩
theorem sortKey_ok {A : Around} {E : Value → Shared → Prop} {P : PySem.Fin → Shared → Prop} {f : Value} {kc kd : Nat → Int} {n : Nat} {a : Addr} (I : Inv X pins σ H s) (ha : H a = some (.lst (natsV (List.range n)))) (hn : n ≤ sizeLine)
    (hkey : ∀ (i : Nat), i < n → ∀ (t : Tok) (H1 : Hp) (s1 : Shared), Inv X pins σ H1 s1 → (∀ b o, H b = some o → b ≠ a → H1 b = some o) →
      wpAny (model X.prog X.w) A (call f [.int (i : Int) t]) (fun u s2 => ∃ k H2, u = .ref k ∧ Inv X pins σ H2 s2 ∧ Same H1 H2 ∧ H2 k = some (.tup [.int (kc i), .int (kd i), .int (i : Int)])) (fun _ _ => False) s1)
    (h : ∀ (s' : Shared) (H' : Hp) (out : List Nat), Inv X pins σ H' s' → (∀ b o, H b = some o → b ≠ a → H' b = some o) → H' a = some (.lst (natsV out)) → out.Perm (List.range n) → out.Pairwise (fun i j => ¬ lt3 kc kd j i) → P (.done (.ret .none)) s') :
    wpAny (model X.prog X.w) A (ksk_tree a f false) P E s := by
  have hn2 := hn
  rw [sizeLine_eq] at hn2
  obtain ⟨hz, its, ne, rv, ho⟩ := (show ObjOk X.prog X.w H s.heap a (.lst (natsV (List.range n))) from I.hok a _ ha)
  have hil : its.length = n := by have := rv.length; unfold natsV at this; rw [List.length_map, List.length_range] at this; exact this.symm
  unfold ksk_tree
  refine wpAny_bind (listItems_at ho rfl ?_)
  refine wpAny_bind (listUpdate_at ho rfl ?_ (by rw [List.size_toArray, sizeLine_eq]; omega) (Nat.zero_le _))
  obtain ⟨e1, ho1⟩ : ∃ e1, (s.heap.update a (Obj.mapSeq fun _ => (#[] : Array Value))).get? a = some (seqObj "list" #[] e1) := ⟨_, get?_update_seq ho fun _ => #[]⟩
  have s1 := Heap.SameBut.update s.heap a (Obj.mapSeq fun _ => (#[] : Array Value))
  have I1 : Inv X pins σ (upd H a (.lst [])) { s with heap := s.heap.update a (Obj.mapSeq fun _ => (#[] : Array Value)) } :=
    I.write (x := a) (e := a) (t' := s.toks) (by rw [ha]; exact True.intro) (.inl rfl) (fun b u hb q => (s1.2 b hb).trans q) ⟨_, ho1⟩ ⟨Nat.zero_le _, [], e1, .nil, ho1⟩
  refine wpAny_bind (seqEpoch_at ho1 rfl ?_)
  refine wpAny_bind (wpAny_newTuple ?_ (by show its.length ≤ _; rw [sizeLine_eq]; omega))
  have I2 : Inv X pins σ (upd H a (.lst [])) { s with heap := (s.heap.update a (Obj.mapSeq fun _ => (#[] : Array Value))).push (seqObj "tuple" its.toArray 0) } :=
    I1.kept (t' := s.toks) fun b u q => Heap.get?_push_of_some _ q
  refine wpAny_bind (wpAny_newList ?_ (Nat.zero_le _))
  refine wpAny_holding ?_
  have hkf := I2.hok.fresh (Nat.le_refl _)
  have ho2 : ((s.heap.update a (Obj.mapSeq fun _ => (#[] : Array Value))).push (seqObj "tuple" its.toArray 0)).get? a = some (seqObj "list" #[] e1) := Heap.get?_push_of_some _ ho1
  have I3 := I2.laid (a := ((s.heap.update a (Obj.mapSeq fun _ => (#[] : Array Value))).push (seqObj "tuple" its.toArray 0)).objs.size) (o := .lst []) (t' := s.toks)
    (h' := ((s.heap.update a (Obj.mapSeq fun _ => (#[] : Array Value))).push (seqObj "tuple" its.toArray 0)).push (seqObj "list" #[] 0)) (fun b u q => Heap.get?_push_of_some _ q) (Nat.le_refl _) ⟨Nat.zero_le _, [], 0, .nil, Heap.get?_push_size _ rfl⟩
  have ho3 : (((s.heap.update a (Obj.mapSeq fun _ => (#[] : Array Value))).push (seqObj "tuple" its.toArray 0)).push (seqObj "list" #[] 0)).get? a = some (seqObj "list" #[] e1) := Heap.get?_push_of_some _ ho2
  show wpAny _ _ (ksk_rest a f false its.toArray e1 (.ref ((s.heap.update a (Obj.mapSeq fun _ => (#[] : Array Value))).push (seqObj "tuple" its.toArray 0)).objs.size)) _ _ { s with heap := ((s.heap.update a (Obj.mapSeq fun _ => (#[] : Array Value))).push (seqObj "tuple" its.toArray 0)).push (seqObj "list" #[] 0) }
  revert I3 hkf ho3
  generalize ((s.heap.update a (Obj.mapSeq fun _ => (#[] : Array Value))).push (seqObj "tuple" its.toArray 0)).push (seqObj "list" #[] 0) = hp3
  generalize ((s.heap.update a (Obj.mapSeq fun _ => (#[] : Array Value))).push (seqObj "tuple" its.toArray 0)).objs.size = kS
  intro hkf I3 ho3
  have hka : a ≠ kS := ne_of_none upd_same hkf
  have hkH : H kS = none := by rw [upd_ne (Ne.symm hka)] at hkf; exact hkf
  have ha3 : upd (upd H a (.lst [])) kS (.lst []) a = some (.lst []) := (upd_ne hka).trans upd_same
  have hnf := I3.nofrz ha3 True.intro
  obtain ⟨od, I4⟩ := I3.lock ha3 True.intro
  have hod : od = seqObj "list" #[] e1 := by
    obtain ⟨e, _⟩ := (show ObjOk X.prog X.w _ hp3 a (.frz od (.lst [])) from I4.hok a _ upd_same)
    exact Option.some.inj (e.symm.trans ho3)
  subst hod
  have keep4 : ∀ b o, H b = some o → b ≠ a → upd (upd (upd H a (.lst [])) kS (.lst [])) a (.frz (seqObj "list" #[] e1) (.lst [])) b = some o := fun b o e hb => by
    rw [upd_ne hb, upd_ne (ne_of_none e hkH), upd_ne hb]; exact e
  unfold ksk_rest
  refine wpAny_bind (wpAny_rule ?_)
  first
    | rw [List.forIn_toArray]
    | (rw [← Array.forIn_toList]; simp only [List.toList_toArray])
    | rw [← Array.forIn_toList]
  refine wpAny_bind (ksk_fold (fun i s' => ∃ (Hi : Hp) (ks : List Addr), Inv X pins σ Hi s' ∧ (∀ b o, H b = some o → b ≠ a → Hi b = some o) ∧ Hi a = some (.frz (seqObj "list" #[] e1) (.lst [])) ∧ Hi kS = some (.lst (ks.map V.ref)) ∧ ks.length = i ∧
    ∀ (j : Nat) (k : Addr), ks[j]? = some k → Hi k = some (.tup [.int (kc j), .int (kd j), .int (j : Int)])) its 0 _ ⟨_, [], I4, keep4, upd_same, (upd_ne (Ne.symm hka)).trans upd_same, rfl, fun j k z => by simp at z⟩ ?step ?done)
  case step =>
    rintro j x s' hx ⟨Hi, ks, Ii, kp, hfa, hfk, hl, hks⟩
    simp only [Nat.zero_add] at hl ⊢
    have hj : j < its.length := (List.getElem?_eq_some_iff.mp hx).1
    obtain ⟨m, t, q1, q2⟩ := vals_nats_get rv hx
    have hjn : j < n := by omega
    rw [List.getElem?_range hjn] at q1
    cases q1
    subst q2
    refine wpAny_bind (wpAny_attempt (wpAny_mono (hkey j hjn t Hi s' Ii kp) (fun v s'' he => ?_) fun _ _ hF => hF.elim))
    obtain ⟨k, H2, rfl, J2, sm, hk2⟩ := he
    try dsimp only
    obtain ⟨hz2, its2, ne2, rv2, hok2⟩ := (show ObjOk X.prog X.w H2 s''.heap kS (.lst (ks.map V.ref)) from J2.hok kS _ (sm _ _ hfk))
    have hl2 : its2.length = j := by have := rv2.length; rw [List.length_map] at this; omega
    have s2 := Heap.SameBut.update s''.heap kS (Obj.mapSeq (·.push (Value.ref k)))
    obtain ⟨c2, hc2⟩ : ∃ c2, (s''.heap.update kS (Obj.mapSeq (·.push (Value.ref k)))).get? kS = some (seqObj "list" (its2.toArray.push (.ref k)) c2) := ⟨_, get?_update_seq hok2 (·.push (Value.ref k))⟩
    have hc3 : (s''.heap.update kS (Obj.mapSeq (·.push (Value.ref k)))).get? kS = some { cls := .type "list", data := .seq (its2 ++ [Value.ref k]).toArray c2 } := by rw [hc2]; simp
    refine wpAny_bind (listUpdate_at hok2 rfl ?_ (by rw [List.size_toArray, sizeLine_eq]; omega) (Nat.le_trans (Nat.le_of_eq (Array.size_push ..)) (by rw [List.size_toArray, sizeLine_eq]; omega)))
    have J3 : Inv X pins σ (upd H2 kS (.lst ((ks ++ [k]).map V.ref))) { s'' with heap := s''.heap.update kS (Obj.mapSeq (·.push (Value.ref k))) } := by
      refine J2.write (x := kS) (e := kS) (t' := s''.toks) (by rw [sm _ _ hfk]; exact True.intro) (.inl rfl) (fun b u hb q => (s2.2 b hb).trans q) ⟨_, hc2⟩ ⟨?_, its2 ++ [.ref k], c2, ?_, hc3⟩
      · rw [List.length_map, List.length_append, hl]; show j + 1 ≤ sizeLine; omega
      · rw [List.map_append]; exact rv2.append (.cons rfl .nil)
    refine wpAny_pure ⟨rfl, _, ks ++ [k], J3, fun b o e hb => ?_, ?_, upd_same, by rw [List.length_append, hl]; rfl, fun i' k' hi' => ?_⟩
    · rw [upd_ne (ne_of_none e hkH)]; exact sm _ _ (kp b o e hb)
    · rw [upd_ne hka]; exact sm _ _ hfa
    · have h1 : H2 k' = some (.tup [.int (kc i'), .int (kd i'), .int (i' : Int)]) := by
        by_cases hi2 : i' < ks.length
        · rw [List.getElem?_append_left hi2] at hi'
          exact sm _ _ (hks i' k' hi')
        · rw [List.getElem?_append_right (by omega)] at hi'
          have e0 : i' - ks.length = 0 := by
            cases q : i' - ks.length with
            | zero => rfl
            | succ m => rw [q] at hi'; simp at hi'
          have e1 : i' = j := by omega
          rw [e0] at hi'
          cases hi'
          rw [e1]; exact hk2
      rw [upd_ne (ne_of h1 (sm _ _ hfk) (by intro z; cases z))]
      exact h1
  case done =>
    rintro s' ⟨Hi, ks, Ii, kp, hfa, hfk, hl, hks⟩
    rw [Nat.zero_add, hil] at hl
    obtain ⟨hz2, its2, ne2, rv2, hok2⟩ := (show ObjOk X.prog X.w Hi s'.heap kS (.lst (ks.map V.ref)) from Ii.hok kS _ hfk)
    have ei := refs_at rv2
    subst ei
    refine wpAny_bind (listItems_at hok2 rfl ?_)
    have hkz : ((ks.map Value.ref).toArray.zip its.toArray).size = n := by rw [Array.size_zip, List.size_toArray, List.size_toArray, List.length_map, hl, hil, Nat.min_self]
    have hkk : ∀ (j : Nat) (k : Addr), ks[j]? = some k → G.tupKeyC s'.heap sh0 (.ref k) = some (key3 (kc j) (kd j) (j : Int)) := fun j k z => (tup3_key Ii.hok (hks j k z)).1
    have fin : ∀ st : SortSt, (arrOf st).Perm ((ks.map Value.ref).toArray.zip its.toArray) → failedOf st = none → SortedToK (G.tupKindC s'.heap sh0) (arrOf st) (arrOf st).size →
        wpAny (model X.prog X.w) A (ksk_tail a false e1 (.ref kS) st) P E s' := by
      intro st hp hf hs
      obtain ⟨out, o1, o2, o3⟩ := sort_out rv hl hkk hp hs
      have osz : (arrOf st).size = n := by rw [hp.size_eq, hkz]
      unfold ksk_tail
      try dsimp only
      refine wpAny_bind (listUpdate_at hok2 rfl ?_ (by rw [List.size_toArray, List.length_map, hl, sizeLine_eq]; omega) (Nat.zero_le _))
      have t1 := Heap.SameBut.update s'.heap kS (Obj.mapSeq fun _ => (#[] : Array Value))
      obtain ⟨c3, hc3⟩ : ∃ c3, (s'.heap.update kS (Obj.mapSeq fun _ => (#[] : Array Value))).get? kS = some (seqObj "list" #[] c3) := ⟨_, get?_update_seq hok2 fun _ => #[]⟩
      have K1 : Inv X pins σ (upd Hi kS (.lst [])) { s' with heap := s'.heap.update kS (Obj.mapSeq fun _ => (#[] : Array Value)) } :=
        Ii.write (x := kS) (e := kS) (t' := s'.toks) (by rw [hfk]; exact True.intro) (.inl rfl) (fun b u hb q => (t1.2 b hb).trans q) ⟨_, hc3⟩ ⟨Nat.zero_le _, [], c3, .nil, hc3⟩
      have hfa1 : upd Hi kS (.lst []) a = some (.frz (seqObj "list" #[] e1) (.lst [])) := (upd_ne hka).trans hfa
      obtain ⟨hoa, _⟩ := (show ObjOk X.prog X.w _ (s'.heap.update kS (Obj.mapSeq fun _ => (#[] : Array Value))) a (.frz (seqObj "list" #[] e1) (.lst [])) from K1.hok a _ hfa1)
      refine wpAny_bind (wpAny_letGo ?_)
      refine wpAny_bind (seqEpoch_at hoa rfl ?_)
      have K2 := K1.unlock hfa1 hnf
      have osz2 : ((arrOf st).map (·.2)).size = n := by rw [Array.size_map, osz]
      refine wpAny_bind (listUpdate_at hoa rfl ?_ (Nat.zero_le _) (by show ((arrOf st).map (·.2)).size ≤ _; rw [osz2, sizeLine_eq]; omega))
      rw [hf]
      simp only [bne_self_eq_false, Bool.false_eq_true, if_false]
      have t2 := Heap.SameBut.update (s'.heap.update kS (Obj.mapSeq fun _ => (#[] : Array Value))) a (Obj.mapSeq fun _ => (arrOf st).map (·.2))
      obtain ⟨c4, hc4⟩ : ∃ c4, ((s'.heap.update kS (Obj.mapSeq fun _ => (#[] : Array Value))).update a (Obj.mapSeq fun _ => (arrOf st).map (·.2))).get? a = some (seqObj "list" ((arrOf st).map (·.2)) c4) := ⟨_, get?_update_seq hoa fun _ => (arrOf st).map (·.2)⟩
      have hc5 : ((s'.heap.update kS (Obj.mapSeq fun _ => (#[] : Array Value))).update a (Obj.mapSeq fun _ => (arrOf st).map (·.2))).get? a = some { cls := .type "list", data := .seq ((arrOf st).map (·.2)).toList.toArray c4 } := by rw [hc4]
      have K3 : Inv X pins σ (upd (upd (upd Hi kS (.lst [])) a (.lst [])) a (.lst (natsV out))) { s' with heap := (s'.heap.update kS (Obj.mapSeq fun _ => (#[] : Array Value))).update a (Obj.mapSeq fun _ => (arrOf st).map (·.2)) } := by
        refine K2.write (x := a) (e := a) (t' := s'.toks) (by rw [upd_same]; exact True.intro) (.inl rfl) (fun b u hb q => (t2.2 b hb).trans q) ⟨_, hc4⟩ ⟨?_, _, c4, o2, hc5⟩
        unfold natsV
        rw [List.length_map, o1.length_eq, List.length_range]
        exact hn
      refine wpAny_pure (h _ _ out K3 (fun b o e hb => ?_) upd_same o1 o3)
      rw [upd_ne hb, upd_ne hb, upd_ne (ne_of_none e hkH)]
      exact kp b o e hb
    unfold ksk_end
    try dsimp only
    simp only [Bool.false_eq_true, if_false]
    by_cases h2 : its.toArray.size < 2
    · rw [if_pos h2, if_pos h2]
      refine wpAny_bind (wpAny_pure ?_)
      rw [StateT.run_pure]
      refine wpAny_bind (wpAny_pure ?_)
      try dsimp only
      refine fin (SortSt.mk' general' ((ks.map Value.ref).toArray.zip its.toArray) #[] 7 none) (Array.Perm.refl _) rfl ?_
      intro i j hij hj
      have hj2 : j < ((ks.map Value.ref).toArray.zip its.toArray).size := hj
      rw [hkz] at hj2
      rw [List.size_toArray] at h2
      have : i = j := by omega
      subst this
      exact KeyOrd.kle_refl _
    · rw [if_neg h2, if_neg h2]
      rw [List.size_toArray] at h2
      obtain ⟨fs, hfs⟩ := tups_of Ii.hok (ks := ks) fun k hk => by
        obtain ⟨j, hj⟩ := List.getElem?_of_mem hk
        exact ⟨_, _, _, hks j k hj⟩
      refine wpAny_bind (tup_kind (by rw [G.TupsOf.length hfs, List.length_map]; omega) hfs ?_)
      try dsimp only
      refine wpAny_bind (wpAny_mono (G.wpS_sortRunsSt (κ := G.tupKindC s'.heap sh0) (kd := tuples' true) (a₀ := (ks.map Value.ref).toArray.zip its.toArray) (st := SortSt.mk' (tuples' true) ((ks.map Value.ref).toArray.zip its.toArray) #[] 7 none)
        (Q := fun _ st' => (arrOf st').Perm ((ks.map Value.ref).toArray.zip its.toArray) ∧ failedOf st' = none ∧ SortedToK (G.tupKindC s'.heap sh0) (arrOf st') ((ks.map Value.ref).toArray.zip its.toArray).size)
        (G.tupC_ltAt true (G.KeepsTups.refl _)) ?_ ⟨Array.Perm.refl _, rfl, rfl⟩ rfl (Stable.refl _) (by rw [hkz]; omega) fun st' a1 a2 a3 _ => ⟨a1, a2, a3⟩) ?_ fun _ _ e => e)
      · intro p hp
        have hp' : p ∈ (ks.map Value.ref).zip its := by simpa using hp
        obtain ⟨k, hk, e⟩ := List.mem_map.mp (List.of_mem_zip (a := p.1) (b := p.2) hp').1
        obtain ⟨j, hj⟩ := List.getElem?_of_mem hk
        exact ⟨_, by rw [← e]; exact hkk j k hj⟩
      · rintro ⟨⟨⟩, st'⟩ s'' ⟨rfl, hp, hf, hs⟩
        try dsimp only
        exact fin st' hp hf (by rw [hp.size_eq]; exact hs)
end
end Ns
end
section
set_option Elab.async false
set_option linter.all false
set_option maxRecDepth 100000
set_option maxHeartbeats 2000000
namespace Ns
open PySem PySem.Spec PyProof.Rows L2
def codeO (c : Addr) (q : Str) : HO := .ext fun h => h.CodeRec (.ref c) q
def lamO (f : Addr) (o : Obj) : HO := .ext fun h => h.get? f = some o
def TabOk (P : Addr) (q : Str) (pos : Pos) (H : Hp) : Prop := ∃ ps, H P = some (.tbl ps) ∧ (ps = #[] ∨ ∃ c, ps = #[rawInt pos.line, rawInt pos.col, .ref c] ∧ H c = some (codeO c q))
def BaseB (mg : Str → Option Value) (base : Heap) : Prop := ∃ bm ob, mg "__builtins__" = some (.ref bm) ∧ bm ≠ builtinsNs ∧ base.get? bm = some ob ∧ ob.cls = .type "module" ∧ ob.dict = some builtinsNs ∧ ob.data = .plain
theorem codeO_ok {Pm : Program} {w : World} {H : Hp} {h : Heap} {c : Addr} {q : Str} (x : h.CodeRec (.ref c) q) : ObjOk Pm w H h c (codeO c q) := by
  obtain ⟨c', o, vs, t, e, e1, e2, e3⟩ := id x
  cases e
  refine ⟨x, ⟨o, e1⟩, ?_⟩
  rintro h1 h2 ⟨c', o, vs, t, e, e1, e2, e3⟩ k
  cases e
  exact ⟨_, o, vs, t, rfl, k _ e1, e2, e3⟩
theorem lamO_ok {Pm : Program} {w : World} {H : Hp} {h : Heap} {f : Addr} {o : Obj} (x : h.get? f = some o) : ObjOk Pm w H h f (lamO f o) := ⟨x, ⟨o, x⟩, fun _ _ p k => k _ p⟩
section
variable {X : Cx} {pins : List (Addr × Obj)} {σ : L2.St} {H : Hp} {s : Shared}
abbrev lamQ (X : Cx) : Str := X.env.qual ++ "<lambda>"
def LamMade (X : Cx) (P : Addr) (pos : Pos) (params : Arguments) (body : Expr) (scope : Scope) (clos : List (Str × Addr)) (H : Hp) (Q : VK) : Prop :=
  ∀ (f c : Addr) (H' : Hp) (pm ctv : Value), H f = none → H' f = some (lamO f (PySem.W.kla_obj "<lambda>" (lamQ X) params body scope clos pm c ctv)) → H' c = some (codeO c (lamQ X)) → TabOk P (lamQ X) pos H' → (∀ b o, H b = some o → b ≠ P → H' b = some o) → Q (.ref f) H'
theorem pe_lam {params : Arguments} {body : Expr} {scope : Scope} {pos : Pos} {c P : Addr} {clos : List (Str × Addr)} (C : ∀ h : Heap, X.K.In h → PySem.W.CodeHd h c P) (hB : BaseB X.mg X.base) (hcode : X.env.code = .ref c) (hdef : defaultsOf params X.env = ([], [])) (hcl : closureFor scope X.env = pure clos) :
    PE X (.Lambda params body scope pos) (fun σ H Q => TabOk P (lamQ X) pos H ∧ LamMade X P pos params body scope clos H Q) := by
  intro pins s σ H Q I h
  obtain ⟨⟨ps, hP, hps⟩, k⟩ := h
  have hPo : s.heap.get? P = some (PySem.W.tabObj ps) := (show ObjOk X.prog X.w H s.heap P (.tbl ps) from I.hok P _ hP)
  have hg : s.heap.Ns mainGlobals X.mg := I.mod.glob.keeps I.bk
  have hgP : mainGlobals ≠ P := fun q => by
    obtain ⟨o, es, ep, e, hd, _⟩ := hg
    rw [q, hPo] at e; cases e; cases hd
  have hb : s.heap.BuiltinsAt X.mg P := by
    obtain ⟨bm, ob, b1, b2, b3, b4, b5, b6⟩ := hB
    refine ⟨bm, ob, b1, b2, fun q => ?_, fun q => ?_, I.bk _ _ b3, b4, b5, b6⟩
    · obtain ⟨o, es, ep, e, hd, _⟩ := I.mod.glob
      rw [q, e] at b3; cases b3; rw [hd] at b6; cases b6
    · have e := I.bk _ _ b3
      rw [q, hPo] at e; cases e; cases b4
  refine PySem.W.kla_eval hdef ?_
  rcases hps with rfl | ⟨c1, rfl, hc1⟩
  · refine PySem.W.kla_makeFunction (mg := X.mg) hcl I.ok.glob hg hcode (C _ I.kIn) hPo True.intro rfl hgP hb fun c' ctv h' tk hx hge hlt hrec htb => ?_
    have hs' : s.heap.objs.size ≤ h'.objs.size := Nat.le_of_lt (Nat.lt_of_le_of_lt hge hlt)
    have nP : P < s.heap.objs.size := Heap.lt_size hPo
    have hc'P : c' ≠ P := Nat.ne_of_gt (Nat.lt_of_lt_of_le nP hge)
    have hfP : h'.objs.size ≠ P := Nat.ne_of_gt (Nat.lt_of_lt_of_le nP hs')
    have hfc : h'.objs.size ≠ c' := Nat.ne_of_gt hlt
    have hfn : H h'.objs.size = none := I.hok.fresh hs'
    have hcn : H c' = none := I.hok.fresh hge
    have htb : h'.get? P = some (PySem.W.tabObj #[rawInt pos.line, rawInt pos.col, .ref c']) := htb
    generalize hob : PySem.W.kla_obj "<lambda>" (lamQ X) params body scope clos ((X.mg "__name__").getD .none) c' ctv = ob
    have hfree : ob.isFreed = false := by rw [← hob]; rfl
    have hkp : ∀ b o, b ≠ P → s.heap.get? b = some o → (h'.push ob).get? b = some o := fun b o hb e => Heap.get?_push_of_some _ (hx b o hb e)
    have hold : ∀ b u, H b = some u → b ≠ P → upd (upd (upd H P (.tbl #[rawInt pos.line, rawInt pos.col, .ref c'])) c' (codeO c' (lamQ X))) h'.objs.size (lamO h'.objs.size ob) b = some u := fun b u e hb => by
      rw [upd_ne (ne_of_none e hfn), upd_ne (ne_of_none e hcn), upd_ne hb]; exact e
    have hneP : ∀ b u, H b = some u → (∀ ps, u ≠ .tbl ps) → b ≠ P := fun b u e hu z => by
      rw [z, hP] at e; cases e; exact hu _ rfl
    have I2 : Inv X pins σ (upd (upd (upd H P (.tbl #[rawInt pos.line, rawInt pos.col, .ref c'])) c' (codeO c' (lamQ X))) h'.objs.size (lamO h'.objs.size ob)) { s with heap := h'.push ob, toks := tk } := by
      refine I.un (t' := tk) ⟨fun b o e n hb _ => ?_, fun b o e n hb _ => ?_, fun b o e n _ => ?_, fun b o e _ => ?_, fun b xs e => ?_, fun b o u e => ?_, fun b qs e => ?_⟩ fun b u e => ?_
      · exact hkp b o (fun z => by rw [z, hP] at n; cases n) e
      · exact ⟨o.slots, hkp b o (fun z => by rw [z, hP] at n; cases n) e⟩
      · have l := Heap.lt_size e
        rw [upd_ne (Nat.ne_of_lt (Nat.lt_of_lt_of_le l hs')), upd_ne (Nat.ne_of_lt (Nat.lt_of_lt_of_le l hge)), upd_ne (fun z => by rw [z, hP] at n; cases n)]
        exact n
      · by_cases z : b = P
        · rw [z]; exact ⟨_, Heap.get?_push_of_some _ htb⟩
        · exact ⟨o, hkp b o z e⟩
      · exact hold b _ e (hneP b _ e fun _ z => nomatch z)
      · exact hold b _ e (hneP b _ e fun _ z => nomatch z)
      · by_cases z : b = P
        · subst z
          rw [hP] at e
          cases e
          exact ⟨_, by rw [upd_ne hfP.symm, upd_ne hc'P.symm, upd_same, Array.empty_append]⟩
        · exact ⟨#[], by rw [hold b _ e z]; simp⟩
      · by_cases z1 : b = h'.objs.size
        · subst z1
          rw [upd_same] at e
          cases e
          exact lamO_ok (Heap.get?_push_size _ hfree)
        · rw [upd_ne z1] at e
          by_cases z2 : b = c'
          · subst z2
            rw [upd_same] at e
            cases e
            exact codeO_ok (hrec.push _)
          · rw [upd_ne z2] at e
            by_cases z3 : b = P
            · subst z3
              rw [upd_same] at e
              cases e
              exact Heap.get?_push_of_some _ htb
            · rw [upd_ne z3] at e
              refine (I.hok b u e).stay (fun d v hd q => hkp d v ?_ q) (fun d q => hold d _ q (hneP d _ q fun _ z => nomatch z)) fun d xs q => hold d _ q (hneP d _ q fun _ z => nomatch z)
              rcases hd with rfl | hd
              · exact z3
              · exact hneP d _ hd fun _ z => nomatch z
    refine ⟨.ref h'.objs.size, _, I2, rfl, k h'.objs.size c' _ _ ctv hfn (by rw [upd_same, ← hob]) ((upd_ne hfc.symm).trans upd_same) ⟨_, (upd_ne hfP.symm).trans ((upd_ne hc'P.symm).trans upd_same), .inr ⟨c', rfl, (upd_ne hfc.symm).trans upd_same⟩⟩ hold⟩
  · have hf : codeAmong pos (#[rawInt pos.line, rawInt pos.col, Value.ref c1] : Array Value).toList = some (.ref c1) := by simp [codeAmong, rawInt]
    have ht : TriplesOk (#[rawInt pos.line, rawInt pos.col, Value.ref c1] : Array Value).toList := by simp [TriplesOk, rawInt]
    refine PySem.W.kla_makeFunctionHit (mg := X.mg) hcl I.ok.glob hg hcode (C _ I.kIn) hPo ht hf hb fun ctv h' tk hk hsz => ?_
    generalize hob : PySem.W.kla_obj "<lambda>" (lamQ X) params body scope clos ((X.mg "__name__").getD .none) c1 ctv = ob
    have hfree : ob.isFreed = false := by rw [← hob]; rfl
    have hfn : H h'.objs.size = none := I.hok.fresh hsz
    have I1 : Inv X pins σ H { s with heap := h', toks := tk } := I.kept hk
    have I2 : Inv X pins σ (upd H h'.objs.size (lamO h'.objs.size ob)) { s with heap := h'.push ob, toks := tk } := I1.laid (a := h'.objs.size) (t' := tk) (fun _ _ q => Heap.get?_push_of_some _ q) (Nat.le_refl _) (lamO_ok (Heap.get?_push_size _ hfree))
    have hold : ∀ b u, H b = some u → upd H h'.objs.size (lamO h'.objs.size ob) b = some u := fun b u e => by rw [upd_ne (ne_of_none e hfn)]; exact e
    subst hob
    exact ⟨.ref h'.objs.size, _, I2, rfl, k h'.objs.size c1 _ _ ctv hfn (by rw [upd_same]) (hold _ _ hc1) ⟨_, hold _ _ hP, .inr ⟨c1, rfl, hold _ _ hc1⟩⟩ fun b u e _ => hold b u e⟩
def cxLam (X : Cx) (A : Around) (qual : Str) (scope : Scope) (f : Addr) (cd : Value) (cl : List (Str × Addr)) (N : List Str) (s : Shared) (H : Hp) : Cx where
  prog := X.prog
  w := X.w
  K := X.K
  mg := X.mg
  base := X.base
  A := A.deeper (PySem.W.envX qual scope s.heap.objs.size f cd cl)
  N := N
  s_0 := s
  H_0 := H
  env := PySem.W.envX qual scope s.heap.objs.size f cd cl
  outer := X.stack
  stack := PySem.W.envX qual scope s.heap.objs.size f cd cl :: X.stack
  ex := []
  calm := true
  fn := fun _ => false
  pn := []
  xe := fun _ _ => False
theorem lam_call {A : Around} {E : Value → Shared → Prop} {f c cn na : Addr} {q : Str} {params : Arguments} {body : Expr} {scope : Scope} {pm ctv : Value} {x y : Str} {v : V} {u : Value} {i : Nat} {k : Nat} {Q : VK} {t : TE}
    (I : Inv X pins σ H s) (hr : Room (k + 1) A) (hA : A.frames = some X.stack) (hf : H f = some (lamO f (PySem.W.kla_obj "<lambda>" q params body scope [(x, cn)] pm c ctv))) (hc : H c = some (codeO c q))
    (hxi : X.N[i]? = some x) (hxs : σ[i]? = some (some (.ref na))) (hxk : X.env.kindOf x = some .cell) (hxc : X.env.cells.lookup x = some cn)
    (hco : scope.isCoroutine = false) (hgen : scope.isGenerator = false) (hk : scope.kind = .function) (hcell : ∀ z ∈ scope.names, z.2 ≠ .cell) (hy : scope.names.lookup y = some .local) (hx : scope.names.lookup x = some .free)
    (hfr : ∀ z, scope.names.lookup z = some .free → z = x) (hxy : y ≠ x)
    (hbind : bindArgs (PySem.W.kla_fn "<lambda>" q params body scope [(x, cn)] pm (.ref c) ctv) ⟨[u], []⟩ = pure [(y, u)]) (rv : RelV v u)
    (hbody : PE (cxLam X A q scope f (.ref c) [(x, cn)] [y, x] s H) body t) (hq : t [some v, some (.ref na)] H Q) :
    wpAny (model X.prog X.w) A (call (.ref f) [u]) (EP X pins σ Q) E s := by
  obtain ⟨m, hns, hloc⟩ := I.loc
  obtain ⟨un, rn, hl⟩ := hloc i x (.ref na) hxi hxs (.inr (.inl hxk))
  obtain rfl : un = Value.ref na := rn
  have hcl : s.heap.IsCell cn (some (.ref na)) := by
    rcases hl with ⟨z, _⟩ | ⟨_, c', e, z⟩
    · rw [hxk] at z; cases z
    · rw [hxc] at e; cases e; exact z
  have hfo : s.heap.get? f = some (PySem.W.kla_obj "<lambda>" q params body scope [(x, cn)] pm c ctv) := (show ObjOk X.prog X.w H s.heap f (lamO f _) from I.hok f _ hf).1
  have hcr : s.heap.CodeRec (.ref c) q := (show ObjOk X.prog X.w H s.heap c (codeO c q) from I.hok c _ hc).1
  have lim := I.nolimit
  refine wpAny_call (codeAny_mono (R := CR CX0 X.stack X.prog X.w H s Q fun _ _ _ => False) (PySem.W.kla_callFunE hr.depth hfo rfl hco hgen rfl hcr ?_) fun r s' hq' => ?_)
  · rw [hbind]
    refine wpAny_pure (wpAny_newFunctionEnv hcell (fun z hz => by rw [List.mem_singleton.mp hz]; exact hy) (fun h1 hn1 hs1 => ⟨lim.fresh _ hs1, ?_⟩) hk)
    show codeAny _ _ (.expr body (PySem.W.envX q scope s.heap.objs.size f (.ref c) [(x, cn)])) _ _
    have hkp : ∀ b o, s.heap.get? b = some o → h1.get? b = some o := fun b o e => hs1.extBut b o (Nat.ne_of_lt (Heap.lt_size e)) (Heap.get?_push_of_some _ e)
    have J : Inv (cxLam X A q scope f (.ref c) [(x, cn)] [y, x] s H) [] [some v, some (.ref na)] H { s with heap := h1, toks := s.toks + [(y, u)].length } := by
      have lk : ∀ {z : Str} {d : Addr}, ([(x, cn)] : List (Str × Addr)).lookup z = some d → z = x ∧ d = cn := fun {z d} e => by
        rw [List.lookup_cons] at e
        cases hb : z == x with
        | true => rw [hb] at e; exact ⟨eq_of_beq hb, (Option.some.inj e).symm⟩
        | false => rw [hb] at e; cases e
      have lx : ([(x, cn)] : List (Str × Addr)).lookup x = some cn := by rw [List.lookup_cons, beq_self_eq_true]
      have noA : ∀ b : Addr, b ∉ (cxLam X A q scope f (.ref c) [(x, cn)] [y, x] s H).ex := fun b z => absurd (show b ∈ ([] : List Addr) from z) (by simp)
      refine ⟨⟨I.ok.mod, hk, rfl, rfl, Nat.le_refl _, fun z z' d e1 e2 => (lk e1).1.trans (lk e2).1.symm, fun z hz => ?_, fun z d e => Bool.noConfusion (show false = true from e), fun _ => hr.hd, Around.frames_deeper hA, .inr ⟨rfl, rfl⟩, fun b z => absurd z (noA b), I.bs, Nat.le_trans I.ok.bsz I.sz, fun b _ _ => noA b, fun b z => absurd z (noA b), I.stack, I.stkFree⟩,
        rfl, I.bare, Un.kept hkp, ⟨_, hn1, fun j z w' h1' h2' h3' => ?_⟩, fun z d e => ⟨some (.ref na), ?_⟩, I.hok.fresh (Nat.le_refl _), fun z d e => ?_, fun p hp => absurd (show p ∈ ([] : List (Addr × Obj)) from hp) (by simp), I.hok.kept hkp, rfl⟩
      · have hz : scope.names.lookup z = some .cell ∨ scope.names.lookup z = some .free := hz
        rcases hz with hz | hz
        · exact absurd rfl (hcell _ (PySem.mem_of_lookup hz))
        · exact ⟨cn, by rw [hfr z hz]; exact lx⟩
      · match j, h1', h2' with
        | 0, h1', h2' =>
          cases h1'
          cases h2'
          refine ⟨u, rv, .inl ⟨hy, ?_⟩⟩
          show ([(y, u)] : List (Str × Value)).reverse.lookup y = some u
          show List.lookup y [(y, u)] = some u
          rw [List.lookup_cons, beq_self_eq_true]
        | 1, h1', h2' =>
          cases h1'
          cases h2'
          exact ⟨.ref na, rfl, .inr ⟨.inr hx, cn, lx, hcl.keeps hkp⟩⟩
      · rw [(lk e).2]; exact hcl.keeps hkp
      · rw [(lk e).2]; exact I.freeC x cn hxc
    refine PySem.W.kla_codeExpr (wpAny_mono (hbody [] _ _ H _ J hq) (fun v' s' hv => ?_) fun _ _ z => z.elim)
    obtain ⟨w', H', J2, r2, q2⟩ := hv
    exact ⟨w', H', J2.os, J2.bare, J2.base, J2.hok, r2, q2⟩
  · cases r with
    | error e => exact hq'.elim
    | ok fl =>
      cases fl with
      | ret u' => exact I.after hq'
      | next => exact False.elim hq'
      | brk => exact False.elim hq'
      | cont => exact False.elim hq'
end
end Ns
end
section
set_option Elab.async false
set_option linter.all false
set_option maxRecDepth 100000
set_option maxHeartbeats 2000000
namespace Ns
open PySem PySem.Spec PyProof.Rows L2
open PySem.W (Codec)
def top (i : Nat) : Stmt := PySem.Challenge.pw_namestands_s01_answers.main.body.getD i (.Pass ⟨0, 0, 0, 0⟩)
abbrev s_is_genus_word : Stmt := top 8
abbrev s_is_species_word : Stmt := top 9
abbrev s_has_word_length : Stmt := top 10
abbrev s_is_great : Stmt := top 11
abbrev s_is_small : Stmt := top 12
abbrev s_are_small : Stmt := top 13
abbrev s_Genus_init : Stmt := inClass (top 26) 0
abbrev s_Species_init : Stmt := inClass (top 27) 0
abbrev s_Book_init : Stmt := inClass (top 28) 0
abbrev s_Book_begin : Stmt := inClass (top 28) 1
abbrev s_Book_add_genus : Stmt := inClass (top 28) 2
abbrev s_Book_add_species : Stmt := inClass (top 28) 3
abbrev s_Book_tie_genus : Stmt := inClass (top 28) 4
abbrev s_Book_birth_word : Stmt := inClass (top 28) 5
abbrev s_Book_rule_name : Stmt := inClass (top 28) 6
abbrev s_Book_place_specimen : Stmt := inClass (top 28) 7
abbrev s_Book_place_kind : Stmt := inClass (top 28) 8
abbrev s_Book_kind_of_species : Stmt := inClass (top 28) 9
abbrev s_Book_group_of_species : Stmt := inClass (top 28) 10
abbrev s_Book_group_of_genus : Stmt := inClass (top 28) 11
abbrev s_tell_group_name : Stmt := top 32
abbrev s_tell_kind_name : Stmt := top 33
abbrev s_tell_status : Stmt := top 34
abbrev s_tell_kind_member : Stmt := top 35
abbrev s_Reader_init : Stmt := inClass (top 37) 0
abbrev s_Reader_is_done : Stmt := inClass (top 37) 1
abbrev s_Reader_take_number : Stmt := inClass (top 37) 2
abbrev s_Reader_take_row : Stmt := inClass (top 37) 3
abbrev s_by_priority : Stmt := top 39
abbrev s_priority_key : Stmt := top 40
abbrev s_find_group_names : Stmt := top 48
abbrev s_find_kind_members : Stmt := top 49
abbrev s_Judge_init : Stmt := inClass (top 50) 0
abbrev s_Judge_find_status : Stmt := inClass (top 50) 1
abbrev s_Standing_init : Stmt := inClass (top 51) 0
abbrev s_answers : Stmt := top 65
abbrev s_answer_telling : Stmt := top 66
abbrev s_answer_question : Stmt := top 67
abbrev s_answer_genus : Stmt := top 68
abbrev s_answer_species : Stmt := top 69
abbrev s_answer_tie : Stmt := top 70
abbrev s_answer_rule : Stmt := top 71
abbrev s_answer_kind : Stmt := top 72
abbrev s_answer_group : Stmt := top 73
abbrev s_answer_names : Stmt := top 74
structure GF (K : PySem.W.Frag) (mg : Str → Option Value) (x : Str) (st : Stmt) (ps : List Str) (f : Addr) (fd : FuncData) : Prop where
  F : Fun K x x st f fd
  b : Binds K fd ps []
  m : mg x = some (.ref f)
structure MF (K : PySem.W.Frag) (C : Addr) (x qual : Str) (st : Stmt) (ps : List Str) (f : Addr) (fd : FuncData) : Prop where
  F : Fun K x qual st f fd
  b : Binds K fd ps []
  m : Meth K C x f
def CodeK (K : PySem.W.Frag) (c P : Addr) : Prop := ∃ o vs file tf flags tg inF text tt, K.lookup c = some o ∧ o.cls = .type "code" ∧ o.data = .fields vs ∧ vs[11]? = some (.ref P) ∧ vs.getD 11 .none = .ref P ∧ vs.getD 18 .none = .str file tf ∧
    vs.getD 7 .none = .int flags tg ∧ vs.getD 9 .none = .bool inF ∧ vs.getD 10 .none = .int text tt ∧ c ≠ P
structure Adr where
  C_Genus : Addr
  C_Species : Addr
  C_Book : Addr
  C_Reader : Addr
  C_Judge : Addr
  C_Standing : Addr
  f_is_genus_word : Addr
  d_is_genus_word : FuncData
  f_is_species_word : Addr
  d_is_species_word : FuncData
  f_has_word_length : Addr
  d_has_word_length : FuncData
  f_is_great : Addr
  d_is_great : FuncData
  f_is_small : Addr
  d_is_small : FuncData
  f_are_small : Addr
  d_are_small : FuncData
  f_Genus_init : Addr
  d_Genus_init : FuncData
  f_Species_init : Addr
  d_Species_init : FuncData
  f_Book_init : Addr
  d_Book_init : FuncData
  f_Book_begin : Addr
  d_Book_begin : FuncData
  f_Book_add_genus : Addr
  d_Book_add_genus : FuncData
  f_Book_add_species : Addr
  d_Book_add_species : FuncData
  f_Book_tie_genus : Addr
  d_Book_tie_genus : FuncData
  f_Book_birth_word : Addr
  d_Book_birth_word : FuncData
  f_Book_rule_name : Addr
  d_Book_rule_name : FuncData
  f_Book_place_specimen : Addr
  d_Book_place_specimen : FuncData
  f_Book_place_kind : Addr
  d_Book_place_kind : FuncData
  f_Book_kind_of_species : Addr
  d_Book_kind_of_species : FuncData
  f_Book_group_of_species : Addr
  d_Book_group_of_species : FuncData
  f_Book_group_of_genus : Addr
  d_Book_group_of_genus : FuncData
  f_tell_group_name : Addr
  d_tell_group_name : FuncData
  f_tell_kind_name : Addr
  d_tell_kind_name : FuncData
  f_tell_status : Addr
  d_tell_status : FuncData
  f_tell_kind_member : Addr
  d_tell_kind_member : FuncData
  f_Reader_init : Addr
  d_Reader_init : FuncData
  f_Reader_is_done : Addr
  d_Reader_is_done : FuncData
  f_Reader_take_number : Addr
  d_Reader_take_number : FuncData
  f_Reader_take_row : Addr
  d_Reader_take_row : FuncData
  f_by_priority : Addr
  d_by_priority : FuncData
  f_priority_key : Addr
  d_priority_key : FuncData
  f_find_group_names : Addr
  d_find_group_names : FuncData
  f_find_kind_members : Addr
  d_find_kind_members : FuncData
  f_Judge_init : Addr
  d_Judge_init : FuncData
  f_Judge_find_status : Addr
  d_Judge_find_status : FuncData
  f_Standing_init : Addr
  d_Standing_init : FuncData
  f_answers : Addr
  d_answers : FuncData
  f_answer_telling : Addr
  d_answer_telling : FuncData
  f_answer_question : Addr
  d_answer_question : FuncData
  f_answer_genus : Addr
  d_answer_genus : FuncData
  f_answer_species : Addr
  d_answer_species : FuncData
  f_answer_tie : Addr
  d_answer_tie : FuncData
  f_answer_rule : Addr
  d_answer_rule : FuncData
  f_answer_kind : Addr
  d_answer_kind : FuncData
  f_answer_group : Addr
  d_answer_group : FuncData
  f_answer_names : Addr
  d_answer_names : FuncData
  c_bp : Addr
  P_bp : Addr
structure Txt (K : PySem.W.Frag) (mg : Str → Option Value) (t : Adr) : Prop where
  cl_Genus : Cls K t.C_Genus
  mg_Genus : mg "Genus" = some (.ref t.C_Genus)
  mk_Genus : Mk K t.C_Genus t.f_Genus_init
  n_Genus_word : NoAttr K t.C_Genus "word"
  n_Genus_day : NoAttr K t.C_Genus "day"
  n_Genus_anchor : NoAttr K t.C_Genus "anchor"
  n_Genus_ruling : NoAttr K t.C_Genus "ruling"
  cl_Species : Cls K t.C_Species
  mg_Species : mg "Species" = some (.ref t.C_Species)
  mk_Species : Mk K t.C_Species t.f_Species_init
  n_Species_genus : NoAttr K t.C_Species "genus"
  n_Species_word : NoAttr K t.C_Species "word"
  n_Species_day : NoAttr K t.C_Species "day"
  n_Species_specimen : NoAttr K t.C_Species "specimen"
  n_Species_ruling : NoAttr K t.C_Species "ruling"
  cl_Book : Cls K t.C_Book
  mg_Book : mg "Book" = some (.ref t.C_Book)
  mk_Book : Mk K t.C_Book t.f_Book_init
  n_Book_genera : NoAttr K t.C_Book "genera"
  n_Book_species : NoAttr K t.C_Book "species"
  n_Book_kinds : NoAttr K t.C_Book "kinds"
  n_Book_groups : NoAttr K t.C_Book "groups"
  cl_Reader : Cls K t.C_Reader
  mg_Reader : mg "Reader" = some (.ref t.C_Reader)
  mk_Reader : Mk K t.C_Reader t.f_Reader_init
  n_Reader_numbers : NoAttr K t.C_Reader "numbers"
  n_Reader_place : NoAttr K t.C_Reader "place"
  cl_Judge : Cls K t.C_Judge
  mg_Judge : mg "Judge" = some (.ref t.C_Judge)
  mk_Judge : Mk K t.C_Judge t.f_Judge_init
  n_Judge_book : NoAttr K t.C_Judge "book"
  n_Judge_births_taken : NoAttr K t.C_Judge "births_taken"
  n_Judge_group_words_taken : NoAttr K t.C_Judge "group_words_taken"
  n_Judge_words_found : NoAttr K t.C_Judge "words_found"
  cl_Standing : Cls K t.C_Standing
  mg_Standing : mg "Standing" = some (.ref t.C_Standing)
  mk_Standing : Mk K t.C_Standing t.f_Standing_init
  n_Standing_group_names : NoAttr K t.C_Standing "group_names"
  n_Standing_kind_members : NoAttr K t.C_Standing "kind_members"
  n_Standing_statuses : NoAttr K t.C_Standing "statuses"
  n_Standing_kind_words : NoAttr K t.C_Standing "kind_words"
  h_is_genus_word : GF K mg "is_genus_word" s_is_genus_word ["word"] t.f_is_genus_word t.d_is_genus_word
  h_is_species_word : GF K mg "is_species_word" s_is_species_word ["word"] t.f_is_species_word t.d_is_species_word
  h_has_word_length : GF K mg "has_word_length" s_has_word_length ["word"] t.f_has_word_length t.d_has_word_length
  h_is_great : GF K mg "is_great" s_is_great ["letter"] t.f_is_great t.d_is_great
  h_is_small : GF K mg "is_small" s_is_small ["letter"] t.f_is_small t.d_is_small
  h_are_small : GF K mg "are_small" s_are_small ["letters"] t.f_are_small t.d_are_small
  h_Genus_init : MF K t.C_Genus "__init__" "Genus.__init__" s_Genus_init ["self", "word", "day"] t.f_Genus_init t.d_Genus_init
  h_Species_init : MF K t.C_Species "__init__" "Species.__init__" s_Species_init ["self", "genus", "word", "day", "specimen"] t.f_Species_init t.d_Species_init
  h_Book_init : MF K t.C_Book "__init__" "Book.__init__" s_Book_init ["self"] t.f_Book_init t.d_Book_init
  h_Book_begin : MF K t.C_Book "begin" "Book.begin" s_Book_begin ["self"] t.f_Book_begin t.d_Book_begin
  h_Book_add_genus : MF K t.C_Book "add_genus" "Book.add_genus" s_Book_add_genus ["self", "word", "day"] t.f_Book_add_genus t.d_Book_add_genus
  h_Book_add_species : MF K t.C_Book "add_species" "Book.add_species" s_Book_add_species ["self", "genus", "word", "day", "specimen"] t.f_Book_add_species t.d_Book_add_species
  h_Book_tie_genus : MF K t.C_Book "tie_genus" "Book.tie_genus" s_Book_tie_genus ["self", "genus", "species"] t.f_Book_tie_genus t.d_Book_tie_genus
  h_Book_birth_word : MF K t.C_Book "birth_word" "Book.birth_word" s_Book_birth_word ["self", "species"] t.f_Book_birth_word t.d_Book_birth_word
  h_Book_rule_name : MF K t.C_Book "rule_name" "Book.rule_name" s_Book_rule_name ["self", "rank", "number", "ruled"] t.f_Book_rule_name t.d_Book_rule_name
  h_Book_place_specimen : MF K t.C_Book "place_specimen" "Book.place_specimen" s_Book_place_specimen ["self", "specimen", "kind"] t.f_Book_place_specimen t.d_Book_place_specimen
  h_Book_place_kind : MF K t.C_Book "place_kind" "Book.place_kind" s_Book_place_kind ["self", "kind", "group"] t.f_Book_place_kind t.d_Book_place_kind
  h_Book_kind_of_species : MF K t.C_Book "kind_of_species" "Book.kind_of_species" s_Book_kind_of_species ["self", "species"] t.f_Book_kind_of_species t.d_Book_kind_of_species
  h_Book_group_of_species : MF K t.C_Book "group_of_species" "Book.group_of_species" s_Book_group_of_species ["self", "species"] t.f_Book_group_of_species t.d_Book_group_of_species
  h_Book_group_of_genus : MF K t.C_Book "group_of_genus" "Book.group_of_genus" s_Book_group_of_genus ["self", "genus"] t.f_Book_group_of_genus t.d_Book_group_of_genus
  h_tell_group_name : GF K mg "tell_group_name" s_tell_group_name ["standing", "group"] t.f_tell_group_name t.d_tell_group_name
  h_tell_kind_name : GF K mg "tell_kind_name" s_tell_kind_name ["book", "standing", "kind"] t.f_tell_kind_name t.d_tell_kind_name
  h_tell_status : GF K mg "tell_status" s_tell_status ["standing", "species"] t.f_tell_status t.d_tell_status
  h_tell_kind_member : GF K mg "tell_kind_member" s_tell_kind_member ["standing", "kind", "place"] t.f_tell_kind_member t.d_tell_kind_member
  h_Reader_init : MF K t.C_Reader "__init__" "Reader.__init__" s_Reader_init ["self", "numbers"] t.f_Reader_init t.d_Reader_init
  h_Reader_is_done : MF K t.C_Reader "is_done" "Reader.is_done" s_Reader_is_done ["self"] t.f_Reader_is_done t.d_Reader_is_done
  h_Reader_take_number : MF K t.C_Reader "take_number" "Reader.take_number" s_Reader_take_number ["self"] t.f_Reader_take_number t.d_Reader_take_number
  h_Reader_take_row : MF K t.C_Reader "take_row" "Reader.take_row" s_Reader_take_row ["self"] t.f_Reader_take_row t.d_Reader_take_row
  h_by_priority : GF K mg "by_priority" s_by_priority ["names"] t.f_by_priority t.d_by_priority
  h_priority_key : GF K mg "priority_key" s_priority_key ["name", "number"] t.f_priority_key t.d_priority_key
  h_find_group_names : GF K mg "find_group_names" s_find_group_names ["book"] t.f_find_group_names t.d_find_group_names
  h_find_kind_members : GF K mg "find_kind_members" s_find_kind_members ["book", "order"] t.f_find_kind_members t.d_find_kind_members
  h_Judge_init : MF K t.C_Judge "__init__" "Judge.__init__" s_Judge_init ["self", "book"] t.f_Judge_init t.d_Judge_init
  h_Judge_find_status : MF K t.C_Judge "find_status" "Judge.find_status" s_Judge_find_status ["self", "number"] t.f_Judge_find_status t.d_Judge_find_status
  h_Standing_init : MF K t.C_Standing "__init__" "Standing.__init__" s_Standing_init ["self", "book"] t.f_Standing_init t.d_Standing_init
  h_answers : GF K mg "answers" s_answers ["calls"] t.f_answers t.d_answers
  h_answer_telling : GF K mg "answer_telling" s_answer_telling ["book", "call", "reader"] t.f_answer_telling t.d_answer_telling
  h_answer_question : GF K mg "answer_question" s_answer_question ["book", "standing", "call", "reader"] t.f_answer_question t.d_answer_question
  h_answer_genus : GF K mg "answer_genus" s_answer_genus ["book", "reader"] t.f_answer_genus t.d_answer_genus
  h_answer_species : GF K mg "answer_species" s_answer_species ["book", "reader"] t.f_answer_species t.d_answer_species
  h_answer_tie : GF K mg "answer_tie" s_answer_tie ["book", "reader"] t.f_answer_tie t.d_answer_tie
  h_answer_rule : GF K mg "answer_rule" s_answer_rule ["book", "reader"] t.f_answer_rule t.d_answer_rule
  h_answer_kind : GF K mg "answer_kind" s_answer_kind ["book", "reader"] t.f_answer_kind t.d_answer_kind
  h_answer_group : GF K mg "answer_group" s_answer_group ["book", "reader"] t.f_answer_group t.d_answer_group
  h_answer_names : GF K mg "answer_names" s_answer_names ["standing", "reader"] t.f_answer_names t.d_answer_names
  c_FOREIGN : ∃ k, mg "FOREIGN" = some (.int (-1) k)
  c_MISSING : ∃ k, mg "MISSING" = some (.int (-2) k)
  c_TAKEN : ∃ k, mg "TAKEN" = some (.int (-17) k)
  c_WRONG : ∃ k, mg "WRONG" = some (.int (-22) k)
  c_FULL : ∃ k, mg "FULL" = some (.int (-28) k)
  c_SHORTEST : ∃ k, mg "SHORTEST" = some (.int 2 k)
  c_LONGEST : ∃ k, mg "LONGEST" = some (.int 24 k)
  c_MOST_GENERA : ∃ k, mg "MOST_GENERA" = some (.int 256 k)
  c_MOST_SPECIES : ∃ k, mg "MOST_SPECIES" = some (.int 1024 k)
  c_LAST_DAY : ∃ k, mg "LAST_DAY" = some (.int 1048576 k)
  c_SPECIMENS : ∃ k, mg "SPECIMENS" = some (.int 1024 k)
  c_NO_KIND : ∃ k, mg "NO_KIND" = some (.int 256 k)
  c_NO_GROUP : ∃ k, mg "NO_GROUP" = some (.int 64 k)
  c_GENUS_RANK : ∃ k, mg "GENUS_RANK" = some (.int 0 k)
  c_SPECIES_RANK : ∃ k, mg "SPECIES_RANK" = some (.int 1 k)
  c_NOTHING_RULED : ∃ k, mg "NOTHING_RULED" = some (.int 0 k)
  c_REJECTED : ∃ k, mg "REJECTED" = some (.int 1 k)
  c_CONSERVED : ∃ k, mg "CONSERVED" = some (.int 2 k)
  c_NOTHING_THERE : ∃ k, mg "NOTHING_THERE" = some (.int 0 k)
  c_FOUND : ∃ k, mg "FOUND" = some (.int 1 k)
  c_KINDS_WORD : ∃ k, mg "KINDS_WORD" = some (.int 0 k)
  c_OTHER_IS_WORD : ∃ k, mg "OTHER_IS_WORD" = some (.int 1 k)
  c_HOMONYM_FROM_BIRTH : ∃ k, mg "HOMONYM_FROM_BIRTH" = some (.int 2 k)
  c_HOMONYM_IN_GROUP : ∃ k, mg "HOMONYM_IN_GROUP" = some (.int 3 k)
  c_IS_REJECTED : ∃ k, mg "IS_REJECTED" = some (.int 4 k)
  c_NOWHERE : ∃ k, mg "NOWHERE" = some (.int 5 k)
  c_BEGIN : ∃ k, mg "BEGIN" = some (.int 0 k)
  c_GENUS : ∃ k, mg "GENUS" = some (.int 1 k)
  c_SPECIES : ∃ k, mg "SPECIES" = some (.int 2 k)
  c_TIE : ∃ k, mg "TIE" = some (.int 3 k)
  c_RULE : ∃ k, mg "RULE" = some (.int 4 k)
  c_KIND : ∃ k, mg "KIND" = some (.int 5 k)
  c_GROUP : ∃ k, mg "GROUP" = some (.int 6 k)
  c_GENUS_OF : ∃ k, mg "GENUS_OF" = some (.int 7 k)
  c_NAME : ∃ k, mg "NAME" = some (.int 8 k)
  c_STATUS : ∃ k, mg "STATUS" = some (.int 9 k)
  c_NAMES : ∃ k, mg "NAMES" = some (.int 10 k)
  b_all : mg "all" = none
  b_len : mg "len" = none
  b_list : mg "list" = none
  b_range : mg "range" = none
  b_sorted : mg "sorted" = none
  b_tuple : mg "tuple" = none
  cd_bp : t.d_by_priority.code = .ref t.c_bp
  hd_bp : CodeK K t.c_bp t.P_bp
  no_bp : K.lookup t.P_bp = none
  tab_bp : PySem.W.tabIn K "by_priority" = some (t.c_bp, t.P_bp)
theorem sc_is_genus_word : FnScope ["word"] ["word"] (defScope s_is_genus_word) := ⟨rfl, rfl, rfl, by decide +kernel, rfl, by decide +kernel, by decide +kernel⟩
theorem sc_is_species_word : FnScope ["word"] ["word"] (defScope s_is_species_word) := ⟨rfl, rfl, rfl, by decide +kernel, rfl, by decide +kernel, by decide +kernel⟩
theorem sc_has_word_length : FnScope ["word"] ["word"] (defScope s_has_word_length) := ⟨rfl, rfl, rfl, by decide +kernel, rfl, by decide +kernel, by decide +kernel⟩
theorem sc_is_great : FnScope ["letter"] ["letter"] (defScope s_is_great) := ⟨rfl, rfl, rfl, by decide +kernel, rfl, by decide +kernel, by decide +kernel⟩
theorem sc_is_small : FnScope ["letter"] ["letter"] (defScope s_is_small) := ⟨rfl, rfl, rfl, by decide +kernel, rfl, by decide +kernel, by decide +kernel⟩
theorem sc_are_small : FnScope ["letters", "letter"] ["letters"] (defScope s_are_small) := ⟨rfl, rfl, rfl, by decide +kernel, rfl, by decide +kernel, by decide +kernel⟩
theorem sc_Genus_init : FnScope ["self", "word", "day"] ["self", "word", "day"] (defScope s_Genus_init) := ⟨rfl, rfl, rfl, by decide +kernel, rfl, by decide +kernel, by decide +kernel⟩
theorem sc_Species_init : FnScope ["self", "genus", "word", "day", "specimen"] ["self", "genus", "word", "day", "specimen"] (defScope s_Species_init) := ⟨rfl, rfl, rfl, by decide +kernel, rfl, by decide +kernel, by decide +kernel⟩
theorem sc_Book_init : FnScope ["self"] ["self"] (defScope s_Book_init) := ⟨rfl, rfl, rfl, by decide +kernel, rfl, by decide +kernel, by decide +kernel⟩
theorem sc_Book_begin : FnScope ["self"] ["self"] (defScope s_Book_begin) := ⟨rfl, rfl, rfl, by decide +kernel, rfl, by decide +kernel, by decide +kernel⟩
theorem sc_Book_add_genus : FnScope ["self", "word", "day"] ["self", "word", "day"] (defScope s_Book_add_genus) := ⟨rfl, rfl, rfl, by decide +kernel, rfl, by decide +kernel, by decide +kernel⟩
theorem sc_Book_add_species : FnScope ["self", "genus", "word", "day", "specimen"] ["self", "genus", "word", "day", "specimen"] (defScope s_Book_add_species) := ⟨rfl, rfl, rfl, by decide +kernel, rfl, by decide +kernel, by decide +kernel⟩
theorem sc_Book_tie_genus : FnScope ["self", "genus", "species", "tied"] ["self", "genus", "species"] (defScope s_Book_tie_genus) := ⟨rfl, rfl, rfl, by decide +kernel, rfl, by decide +kernel, by decide +kernel⟩
theorem sc_Book_birth_word : FnScope ["self", "species"] ["self", "species"] (defScope s_Book_birth_word) := ⟨rfl, rfl, rfl, by decide +kernel, rfl, by decide +kernel, by decide +kernel⟩
theorem sc_Book_rule_name : FnScope ["self", "rank", "number", "ruled", "names", "name"] ["self", "rank", "number", "ruled"] (defScope s_Book_rule_name) := ⟨rfl, rfl, rfl, by decide +kernel, rfl, by decide +kernel, by decide +kernel⟩
theorem sc_Book_place_specimen : FnScope ["self", "specimen", "kind"] ["self", "specimen", "kind"] (defScope s_Book_place_specimen) := ⟨rfl, rfl, rfl, by decide +kernel, rfl, by decide +kernel, by decide +kernel⟩
theorem sc_Book_place_kind : FnScope ["self", "kind", "group"] ["self", "kind", "group"] (defScope s_Book_place_kind) := ⟨rfl, rfl, rfl, by decide +kernel, rfl, by decide +kernel, by decide +kernel⟩
theorem sc_Book_kind_of_species : FnScope ["self", "species"] ["self", "species"] (defScope s_Book_kind_of_species) := ⟨rfl, rfl, rfl, by decide +kernel, rfl, by decide +kernel, by decide +kernel⟩
theorem sc_Book_group_of_species : FnScope ["self", "species", "kind"] ["self", "species"] (defScope s_Book_group_of_species) := ⟨rfl, rfl, rfl, by decide +kernel, rfl, by decide +kernel, by decide +kernel⟩
theorem sc_Book_group_of_genus : FnScope ["self", "genus", "anchor"] ["self", "genus"] (defScope s_Book_group_of_genus) := ⟨rfl, rfl, rfl, by decide +kernel, rfl, by decide +kernel, by decide +kernel⟩
theorem sc_tell_group_name : FnScope ["standing", "group", "genus"] ["standing", "group"] (defScope s_tell_group_name) := ⟨rfl, rfl, rfl, by decide +kernel, rfl, by decide +kernel, by decide +kernel⟩
theorem sc_tell_kind_name : FnScope ["book", "standing", "kind", "genus", "species", "genus_word", "species_word"] ["book", "standing", "kind"] (defScope s_tell_kind_name) := ⟨rfl, rfl, rfl, by decide +kernel, rfl, by decide +kernel, by decide +kernel⟩
theorem sc_tell_status : FnScope ["standing", "species"] ["standing", "species"] (defScope s_tell_status) := ⟨rfl, rfl, rfl, by decide +kernel, rfl, by decide +kernel, by decide +kernel⟩
theorem sc_tell_kind_member : FnScope ["standing", "kind", "place", "members", "species"] ["standing", "kind", "place"] (defScope s_tell_kind_member) := ⟨rfl, rfl, rfl, by decide +kernel, rfl, by decide +kernel, by decide +kernel⟩
theorem sc_Reader_init : FnScope ["self", "numbers"] ["self", "numbers"] (defScope s_Reader_init) := ⟨rfl, rfl, rfl, by decide +kernel, rfl, by decide +kernel, by decide +kernel⟩
theorem sc_Reader_is_done : FnScope ["self"] ["self"] (defScope s_Reader_is_done) := ⟨rfl, rfl, rfl, by decide +kernel, rfl, by decide +kernel, by decide +kernel⟩
theorem sc_Reader_take_number : FnScope ["self", "number"] ["self"] (defScope s_Reader_take_number) := ⟨rfl, rfl, rfl, by decide +kernel, rfl, by decide +kernel, by decide +kernel⟩
theorem sc_Reader_take_row : FnScope ["self", "length", "row"] ["self"] (defScope s_Reader_take_row) := ⟨rfl, rfl, rfl, by decide +kernel, rfl, by decide +kernel, by decide +kernel⟩
theorem sc_by_priority : FnScope ["names"] ["names"] (defScope s_by_priority) := ⟨rfl, rfl, rfl, by decide +kernel, rfl, by decide +kernel, by decide +kernel⟩
theorem sc_priority_key : FnScope ["name", "number"] ["name", "number"] (defScope s_priority_key) := ⟨rfl, rfl, rfl, by decide +kernel, rfl, by decide +kernel, by decide +kernel⟩
theorem sc_find_group_names : FnScope ["book", "good_words", "names", "number", "genus", "group"] ["book"] (defScope s_find_group_names) := ⟨rfl, rfl, rfl, by decide +kernel, rfl, by decide +kernel, by decide +kernel⟩
theorem sc_find_kind_members : FnScope ["book", "order", "members", "number", "kind"] ["book", "order"] (defScope s_find_kind_members) := ⟨rfl, rfl, rfl, by decide +kernel, rfl, by decide +kernel, by decide +kernel⟩
theorem sc_Judge_init : FnScope ["self", "book"] ["self", "book"] (defScope s_Judge_init) := ⟨rfl, rfl, rfl, by decide +kernel, rfl, by decide +kernel, by decide +kernel⟩
theorem sc_Judge_find_status : FnScope ["self", "number", "species", "birth", "group", "kind"] ["self", "number"] (defScope s_Judge_find_status) := ⟨rfl, rfl, rfl, by decide +kernel, rfl, by decide +kernel, by decide +kernel⟩
theorem sc_Standing_init : FnScope ["self", "book", "order", "judge", "number"] ["self", "book"] (defScope s_Standing_init) := ⟨rfl, rfl, rfl, by decide +kernel, rfl, by decide +kernel, by decide +kernel⟩
theorem sc_answers : FnScope ["calls", "book", "standing", "reader", "told", "call", "answer"] ["calls"] (defScope s_answers) := ⟨rfl, rfl, rfl, by decide +kernel, rfl, by decide +kernel, by decide +kernel⟩
theorem sc_answer_telling : FnScope ["book", "call", "reader"] ["book", "call", "reader"] (defScope s_answer_telling) := ⟨rfl, rfl, rfl, by decide +kernel, rfl, by decide +kernel, by decide +kernel⟩
theorem sc_answer_question : FnScope ["book", "standing", "call", "reader"] ["book", "standing", "call", "reader"] (defScope s_answer_question) := ⟨rfl, rfl, rfl, by decide +kernel, rfl, by decide +kernel, by decide +kernel⟩
theorem sc_answer_genus : FnScope ["book", "reader", "day", "word"] ["book", "reader"] (defScope s_answer_genus) := ⟨rfl, rfl, rfl, by decide +kernel, rfl, by decide +kernel, by decide +kernel⟩
theorem sc_answer_species : FnScope ["book", "reader", "genus", "day", "specimen", "word"] ["book", "reader"] (defScope s_answer_species) := ⟨rfl, rfl, rfl, by decide +kernel, rfl, by decide +kernel, by decide +kernel⟩
theorem sc_answer_tie : FnScope ["book", "reader", "genus", "species"] ["book", "reader"] (defScope s_answer_tie) := ⟨rfl, rfl, rfl, by decide +kernel, rfl, by decide +kernel, by decide +kernel⟩
theorem sc_answer_rule : FnScope ["book", "reader", "rank", "number", "ruled"] ["book", "reader"] (defScope s_answer_rule) := ⟨rfl, rfl, rfl, by decide +kernel, rfl, by decide +kernel, by decide +kernel⟩
theorem sc_answer_kind : FnScope ["book", "reader", "specimen", "kind"] ["book", "reader"] (defScope s_answer_kind) := ⟨rfl, rfl, rfl, by decide +kernel, rfl, by decide +kernel, by decide +kernel⟩
theorem sc_answer_group : FnScope ["book", "reader", "kind", "group"] ["book", "reader"] (defScope s_answer_group) := ⟨rfl, rfl, rfl, by decide +kernel, rfl, by decide +kernel, by decide +kernel⟩
theorem sc_answer_names : FnScope ["standing", "reader", "kind", "place"] ["standing", "reader"] (defScope s_answer_names) := ⟨rfl, rfl, rfl, by decide +kernel, rfl, by decide +kernel, by decide +kernel⟩
theorem txt_mk {K : PySem.W.Frag} {h : Heap} {mg : Str → Option Value} (X : K.In h) (G : h.Ns mainGlobals mg)
    {C_Genus : Addr} (aC_Genus : PySem.W.nsIn K mainGlobals "Genus" = some (some (.ref C_Genus)))
    {C_Species : Addr} (aC_Species : PySem.W.nsIn K mainGlobals "Species" = some (some (.ref C_Species)))
    {C_Book : Addr} (aC_Book : PySem.W.nsIn K mainGlobals "Book" = some (some (.ref C_Book)))
    {C_Reader : Addr} (aC_Reader : PySem.W.nsIn K mainGlobals "Reader" = some (some (.ref C_Reader)))
    {C_Judge : Addr} (aC_Judge : PySem.W.nsIn K mainGlobals "Judge" = some (some (.ref C_Judge)))
    {C_Standing : Addr} (aC_Standing : PySem.W.nsIn K mainGlobals "Standing" = some (some (.ref C_Standing)))
    {f_is_genus_word : Addr} {od_is_genus_word an_is_genus_word : Option Addr} {sl_is_genus_word : Array (Option Value)} {oc_is_genus_word kV_is_genus_word dc_is_genus_word pm_is_genus_word cd_is_genus_word ct_is_genus_word : Value}
    (a_is_genus_word : PySem.W.nsIn K mainGlobals "is_genus_word" = some (some (.ref f_is_genus_word)))
    (l_is_genus_word : K.lookup f_is_genus_word = some ⟨oc_is_genus_word, od_is_genus_word, .func (PySem.W.fnOf "is_genus_word" "is_genus_word" (defArgs s_is_genus_word) (defBody s_is_genus_word) (defScope s_is_genus_word) .none kV_is_genus_word dc_is_genus_word pm_is_genus_word an_is_genus_word cd_is_genus_word ct_is_genus_word), sl_is_genus_word⟩) (c_is_genus_word : PySem.W.codeIn K cd_is_genus_word "is_genus_word" = true) (k_is_genus_word : PySem.W.keepIn K (.ref f_is_genus_word) = true)
    {f_is_species_word : Addr} {od_is_species_word an_is_species_word : Option Addr} {sl_is_species_word : Array (Option Value)} {oc_is_species_word kV_is_species_word dc_is_species_word pm_is_species_word cd_is_species_word ct_is_species_word : Value}
    (a_is_species_word : PySem.W.nsIn K mainGlobals "is_species_word" = some (some (.ref f_is_species_word)))
    (l_is_species_word : K.lookup f_is_species_word = some ⟨oc_is_species_word, od_is_species_word, .func (PySem.W.fnOf "is_species_word" "is_species_word" (defArgs s_is_species_word) (defBody s_is_species_word) (defScope s_is_species_word) .none kV_is_species_word dc_is_species_word pm_is_species_word an_is_species_word cd_is_species_word ct_is_species_word), sl_is_species_word⟩) (c_is_species_word : PySem.W.codeIn K cd_is_species_word "is_species_word" = true) (k_is_species_word : PySem.W.keepIn K (.ref f_is_species_word) = true)
    {f_has_word_length : Addr} {od_has_word_length an_has_word_length : Option Addr} {sl_has_word_length : Array (Option Value)} {oc_has_word_length kV_has_word_length dc_has_word_length pm_has_word_length cd_has_word_length ct_has_word_length : Value}
    (a_has_word_length : PySem.W.nsIn K mainGlobals "has_word_length" = some (some (.ref f_has_word_length)))
    (l_has_word_length : K.lookup f_has_word_length = some ⟨oc_has_word_length, od_has_word_length, .func (PySem.W.fnOf "has_word_length" "has_word_length" (defArgs s_has_word_length) (defBody s_has_word_length) (defScope s_has_word_length) .none kV_has_word_length dc_has_word_length pm_has_word_length an_has_word_length cd_has_word_length ct_has_word_length), sl_has_word_length⟩) (c_has_word_length : PySem.W.codeIn K cd_has_word_length "has_word_length" = true) (k_has_word_length : PySem.W.keepIn K (.ref f_has_word_length) = true)
    {f_is_great : Addr} {od_is_great an_is_great : Option Addr} {sl_is_great : Array (Option Value)} {oc_is_great kV_is_great dc_is_great pm_is_great cd_is_great ct_is_great : Value}
    (a_is_great : PySem.W.nsIn K mainGlobals "is_great" = some (some (.ref f_is_great)))
    (l_is_great : K.lookup f_is_great = some ⟨oc_is_great, od_is_great, .func (PySem.W.fnOf "is_great" "is_great" (defArgs s_is_great) (defBody s_is_great) (defScope s_is_great) .none kV_is_great dc_is_great pm_is_great an_is_great cd_is_great ct_is_great), sl_is_great⟩) (c_is_great : PySem.W.codeIn K cd_is_great "is_great" = true) (k_is_great : PySem.W.keepIn K (.ref f_is_great) = true)
    {f_is_small : Addr} {od_is_small an_is_small : Option Addr} {sl_is_small : Array (Option Value)} {oc_is_small kV_is_small dc_is_small pm_is_small cd_is_small ct_is_small : Value}
    (a_is_small : PySem.W.nsIn K mainGlobals "is_small" = some (some (.ref f_is_small)))
    (l_is_small : K.lookup f_is_small = some ⟨oc_is_small, od_is_small, .func (PySem.W.fnOf "is_small" "is_small" (defArgs s_is_small) (defBody s_is_small) (defScope s_is_small) .none kV_is_small dc_is_small pm_is_small an_is_small cd_is_small ct_is_small), sl_is_small⟩) (c_is_small : PySem.W.codeIn K cd_is_small "is_small" = true) (k_is_small : PySem.W.keepIn K (.ref f_is_small) = true)
    {f_are_small : Addr} {od_are_small an_are_small : Option Addr} {sl_are_small : Array (Option Value)} {oc_are_small kV_are_small dc_are_small pm_are_small cd_are_small ct_are_small : Value}
    (a_are_small : PySem.W.nsIn K mainGlobals "are_small" = some (some (.ref f_are_small)))
    (l_are_small : K.lookup f_are_small = some ⟨oc_are_small, od_are_small, .func (PySem.W.fnOf "are_small" "are_small" (defArgs s_are_small) (defBody s_are_small) (defScope s_are_small) .none kV_are_small dc_are_small pm_are_small an_are_small cd_are_small ct_are_small), sl_are_small⟩) (c_are_small : PySem.W.codeIn K cd_are_small "are_small" = true) (k_are_small : PySem.W.keepIn K (.ref f_are_small) = true)
    {f_Genus_init : Addr} {od_Genus_init an_Genus_init : Option Addr} {sl_Genus_init : Array (Option Value)} {oc_Genus_init kV_Genus_init dc_Genus_init pm_Genus_init cd_Genus_init ct_Genus_init : Value}
    (a_Genus_init : PySem.W.findIn K (.ref C_Genus) "__init__" = some (some (.ref f_Genus_init))) (i_Genus_init : PySem.W.isFn K (.ref f_Genus_init) = true)
    (l_Genus_init : K.lookup f_Genus_init = some ⟨oc_Genus_init, od_Genus_init, .func (PySem.W.fnOf "__init__" "Genus.__init__" (defArgs s_Genus_init) (defBody s_Genus_init) (defScope s_Genus_init) .none kV_Genus_init dc_Genus_init pm_Genus_init an_Genus_init cd_Genus_init ct_Genus_init), sl_Genus_init⟩) (c_Genus_init : PySem.W.codeIn K cd_Genus_init "Genus.__init__" = true) (k_Genus_init : PySem.W.keepIn K (.ref f_Genus_init) = true)
    {f_Species_init : Addr} {od_Species_init an_Species_init : Option Addr} {sl_Species_init : Array (Option Value)} {oc_Species_init kV_Species_init dc_Species_init pm_Species_init cd_Species_init ct_Species_init : Value}
    (a_Species_init : PySem.W.findIn K (.ref C_Species) "__init__" = some (some (.ref f_Species_init))) (i_Species_init : PySem.W.isFn K (.ref f_Species_init) = true)
    (l_Species_init : K.lookup f_Species_init = some ⟨oc_Species_init, od_Species_init, .func (PySem.W.fnOf "__init__" "Species.__init__" (defArgs s_Species_init) (defBody s_Species_init) (defScope s_Species_init) .none kV_Species_init dc_Species_init pm_Species_init an_Species_init cd_Species_init ct_Species_init), sl_Species_init⟩) (c_Species_init : PySem.W.codeIn K cd_Species_init "Species.__init__" = true) (k_Species_init : PySem.W.keepIn K (.ref f_Species_init) = true)
    {f_Book_init : Addr} {od_Book_init an_Book_init : Option Addr} {sl_Book_init : Array (Option Value)} {oc_Book_init kV_Book_init dc_Book_init pm_Book_init cd_Book_init ct_Book_init : Value}
    (a_Book_init : PySem.W.findIn K (.ref C_Book) "__init__" = some (some (.ref f_Book_init))) (i_Book_init : PySem.W.isFn K (.ref f_Book_init) = true)
    (l_Book_init : K.lookup f_Book_init = some ⟨oc_Book_init, od_Book_init, .func (PySem.W.fnOf "__init__" "Book.__init__" (defArgs s_Book_init) (defBody s_Book_init) (defScope s_Book_init) .none kV_Book_init dc_Book_init pm_Book_init an_Book_init cd_Book_init ct_Book_init), sl_Book_init⟩) (c_Book_init : PySem.W.codeIn K cd_Book_init "Book.__init__" = true) (k_Book_init : PySem.W.keepIn K (.ref f_Book_init) = true)
    {f_Book_begin : Addr} {od_Book_begin an_Book_begin : Option Addr} {sl_Book_begin : Array (Option Value)} {oc_Book_begin kV_Book_begin dc_Book_begin pm_Book_begin cd_Book_begin ct_Book_begin : Value}
    (a_Book_begin : PySem.W.findIn K (.ref C_Book) "begin" = some (some (.ref f_Book_begin))) (i_Book_begin : PySem.W.isFn K (.ref f_Book_begin) = true)
    (l_Book_begin : K.lookup f_Book_begin = some ⟨oc_Book_begin, od_Book_begin, .func (PySem.W.fnOf "begin" "Book.begin" (defArgs s_Book_begin) (defBody s_Book_begin) (defScope s_Book_begin) .none kV_Book_begin dc_Book_begin pm_Book_begin an_Book_begin cd_Book_begin ct_Book_begin), sl_Book_begin⟩) (c_Book_begin : PySem.W.codeIn K cd_Book_begin "Book.begin" = true) (k_Book_begin : PySem.W.keepIn K (.ref f_Book_begin) = true)
    {f_Book_add_genus : Addr} {od_Book_add_genus an_Book_add_genus : Option Addr} {sl_Book_add_genus : Array (Option Value)} {oc_Book_add_genus kV_Book_add_genus dc_Book_add_genus pm_Book_add_genus cd_Book_add_genus ct_Book_add_genus : Value}
    (a_Book_add_genus : PySem.W.findIn K (.ref C_Book) "add_genus" = some (some (.ref f_Book_add_genus))) (i_Book_add_genus : PySem.W.isFn K (.ref f_Book_add_genus) = true)
    (l_Book_add_genus : K.lookup f_Book_add_genus = some ⟨oc_Book_add_genus, od_Book_add_genus, .func (PySem.W.fnOf "add_genus" "Book.add_genus" (defArgs s_Book_add_genus) (defBody s_Book_add_genus) (defScope s_Book_add_genus) .none kV_Book_add_genus dc_Book_add_genus pm_Book_add_genus an_Book_add_genus cd_Book_add_genus ct_Book_add_genus), sl_Book_add_genus⟩) (c_Book_add_genus : PySem.W.codeIn K cd_Book_add_genus "Book.add_genus" = true) (k_Book_add_genus : PySem.W.keepIn K (.ref f_Book_add_genus) = true)
    {f_Book_add_species : Addr} {od_Book_add_species an_Book_add_species : Option Addr} {sl_Book_add_species : Array (Option Value)} {oc_Book_add_species kV_Book_add_species dc_Book_add_species pm_Book_add_species cd_Book_add_species ct_Book_add_species : Value}
    (a_Book_add_species : PySem.W.findIn K (.ref C_Book) "add_species" = some (some (.ref f_Book_add_species))) (i_Book_add_species : PySem.W.isFn K (.ref f_Book_add_species) = true)
    (l_Book_add_species : K.lookup f_Book_add_species = some ⟨oc_Book_add_species, od_Book_add_species, .func (PySem.W.fnOf "add_species" "Book.add_species" (defArgs s_Book_add_species) (defBody s_Book_add_species) (defScope s_Book_add_species) .none kV_Book_add_species dc_Book_add_species pm_Book_add_species an_Book_add_species cd_Book_add_species ct_Book_add_species), sl_Book_add_species⟩) (c_Book_add_species : PySem.W.codeIn K cd_Book_add_species "Book.add_species" = true) (k_Book_add_species : PySem.W.keepIn K (.ref f_Book_add_species) = true)
    {f_Book_tie_genus : Addr} {od_Book_tie_genus an_Book_tie_genus : Option Addr} {sl_Book_tie_genus : Array (Option Value)} {oc_Book_tie_genus kV_Book_tie_genus dc_Book_tie_genus pm_Book_tie_genus cd_Book_tie_genus ct_Book_tie_genus : Value}
    (a_Book_tie_genus : PySem.W.findIn K (.ref C_Book) "tie_genus" = some (some (.ref f_Book_tie_genus))) (i_Book_tie_genus : PySem.W.isFn K (.ref f_Book_tie_genus) = true)
    (l_Book_tie_genus : K.lookup f_Book_tie_genus = some ⟨oc_Book_tie_genus, od_Book_tie_genus, .func (PySem.W.fnOf "tie_genus" "Book.tie_genus" (defArgs s_Book_tie_genus) (defBody s_Book_tie_genus) (defScope s_Book_tie_genus) .none kV_Book_tie_genus dc_Book_tie_genus pm_Book_tie_genus an_Book_tie_genus cd_Book_tie_genus ct_Book_tie_genus), sl_Book_tie_genus⟩) (c_Book_tie_genus : PySem.W.codeIn K cd_Book_tie_genus "Book.tie_genus" = true) (k_Book_tie_genus : PySem.W.keepIn K (.ref f_Book_tie_genus) = true)
    {f_Book_birth_word : Addr} {od_Book_birth_word an_Book_birth_word : Option Addr} {sl_Book_birth_word : Array (Option Value)} {oc_Book_birth_word kV_Book_birth_word dc_Book_birth_word pm_Book_birth_word cd_Book_birth_word ct_Book_birth_word : Value}
    (a_Book_birth_word : PySem.W.findIn K (.ref C_Book) "birth_word" = some (some (.ref f_Book_birth_word))) (i_Book_birth_word : PySem.W.isFn K (.ref f_Book_birth_word) = true)
    (l_Book_birth_word : K.lookup f_Book_birth_word = some ⟨oc_Book_birth_word, od_Book_birth_word, .func (PySem.W.fnOf "birth_word" "Book.birth_word" (defArgs s_Book_birth_word) (defBody s_Book_birth_word) (defScope s_Book_birth_word) .none kV_Book_birth_word dc_Book_birth_word pm_Book_birth_word an_Book_birth_word cd_Book_birth_word ct_Book_birth_word), sl_Book_birth_word⟩) (c_Book_birth_word : PySem.W.codeIn K cd_Book_birth_word "Book.birth_word" = true) (k_Book_birth_word : PySem.W.keepIn K (.ref f_Book_birth_word) = true)
    {f_Book_rule_name : Addr} {od_Book_rule_name an_Book_rule_name : Option Addr} {sl_Book_rule_name : Array (Option Value)} {oc_Book_rule_name kV_Book_rule_name dc_Book_rule_name pm_Book_rule_name cd_Book_rule_name ct_Book_rule_name : Value}
    (a_Book_rule_name : PySem.W.findIn K (.ref C_Book) "rule_name" = some (some (.ref f_Book_rule_name))) (i_Book_rule_name : PySem.W.isFn K (.ref f_Book_rule_name) = true)
    (l_Book_rule_name : K.lookup f_Book_rule_name = some ⟨oc_Book_rule_name, od_Book_rule_name, .func (PySem.W.fnOf "rule_name" "Book.rule_name" (defArgs s_Book_rule_name) (defBody s_Book_rule_name) (defScope s_Book_rule_name) .none kV_Book_rule_name dc_Book_rule_name pm_Book_rule_name an_Book_rule_name cd_Book_rule_name ct_Book_rule_name), sl_Book_rule_name⟩) (c_Book_rule_name : PySem.W.codeIn K cd_Book_rule_name "Book.rule_name" = true) (k_Book_rule_name : PySem.W.keepIn K (.ref f_Book_rule_name) = true)
    {f_Book_place_specimen : Addr} {od_Book_place_specimen an_Book_place_specimen : Option Addr} {sl_Book_place_specimen : Array (Option Value)} {oc_Book_place_specimen kV_Book_place_specimen dc_Book_place_specimen pm_Book_place_specimen cd_Book_place_specimen ct_Book_place_specimen : Value}
    (a_Book_place_specimen : PySem.W.findIn K (.ref C_Book) "place_specimen" = some (some (.ref f_Book_place_specimen))) (i_Book_place_specimen : PySem.W.isFn K (.ref f_Book_place_specimen) = true)
    (l_Book_place_specimen : K.lookup f_Book_place_specimen = some ⟨oc_Book_place_specimen, od_Book_place_specimen, .func (PySem.W.fnOf "place_specimen" "Book.place_specimen" (defArgs s_Book_place_specimen) (defBody s_Book_place_specimen) (defScope s_Book_place_specimen) .none kV_Book_place_specimen dc_Book_place_specimen pm_Book_place_specimen an_Book_place_specimen cd_Book_place_specimen ct_Book_place_specimen), sl_Book_place_specimen⟩) (c_Book_place_specimen : PySem.W.codeIn K cd_Book_place_specimen "Book.place_specimen" = true) (k_Book_place_specimen : PySem.W.keepIn K (.ref f_Book_place_specimen) = true)
    {f_Book_place_kind : Addr} {od_Book_place_kind an_Book_place_kind : Option Addr} {sl_Book_place_kind : Array (Option Value)} {oc_Book_place_kind kV_Book_place_kind dc_Book_place_kind pm_Book_place_kind cd_Book_place_kind ct_Book_place_kind : Value}
    (a_Book_place_kind : PySem.W.findIn K (.ref C_Book) "place_kind" = some (some (.ref f_Book_place_kind))) (i_Book_place_kind : PySem.W.isFn K (.ref f_Book_place_kind) = true)
    (l_Book_place_kind : K.lookup f_Book_place_kind = some ⟨oc_Book_place_kind, od_Book_place_kind, .func (PySem.W.fnOf "place_kind" "Book.place_kind" (defArgs s_Book_place_kind) (defBody s_Book_place_kind) (defScope s_Book_place_kind) .none kV_Book_place_kind dc_Book_place_kind pm_Book_place_kind an_Book_place_kind cd_Book_place_kind ct_Book_place_kind), sl_Book_place_kind⟩) (c_Book_place_kind : PySem.W.codeIn K cd_Book_place_kind "Book.place_kind" = true) (k_Book_place_kind : PySem.W.keepIn K (.ref f_Book_place_kind) = true)
    {f_Book_kind_of_species : Addr} {od_Book_kind_of_species an_Book_kind_of_species : Option Addr} {sl_Book_kind_of_species : Array (Option Value)} {oc_Book_kind_of_species kV_Book_kind_of_species dc_Book_kind_of_species pm_Book_kind_of_species cd_Book_kind_of_species ct_Book_kind_of_species : Value}
    (a_Book_kind_of_species : PySem.W.findIn K (.ref C_Book) "kind_of_species" = some (some (.ref f_Book_kind_of_species))) (i_Book_kind_of_species : PySem.W.isFn K (.ref f_Book_kind_of_species) = true)
    (l_Book_kind_of_species : K.lookup f_Book_kind_of_species = some ⟨oc_Book_kind_of_species, od_Book_kind_of_species, .func (PySem.W.fnOf "kind_of_species" "Book.kind_of_species" (defArgs s_Book_kind_of_species) (defBody s_Book_kind_of_species) (defScope s_Book_kind_of_species) .none kV_Book_kind_of_species dc_Book_kind_of_species pm_Book_kind_of_species an_Book_kind_of_species cd_Book_kind_of_species ct_Book_kind_of_species), sl_Book_kind_of_species⟩) (c_Book_kind_of_species : PySem.W.codeIn K cd_Book_kind_of_species "Book.kind_of_species" = true) (k_Book_kind_of_species : PySem.W.keepIn K (.ref f_Book_kind_of_species) = true)
    {f_Book_group_of_species : Addr} {od_Book_group_of_species an_Book_group_of_species : Option Addr} {sl_Book_group_of_species : Array (Option Value)} {oc_Book_group_of_species kV_Book_group_of_species dc_Book_group_of_species pm_Book_group_of_species cd_Book_group_of_species ct_Book_group_of_species : Value}
    (a_Book_group_of_species : PySem.W.findIn K (.ref C_Book) "group_of_species" = some (some (.ref f_Book_group_of_species))) (i_Book_group_of_species : PySem.W.isFn K (.ref f_Book_group_of_species) = true)
    (l_Book_group_of_species : K.lookup f_Book_group_of_species = some ⟨oc_Book_group_of_species, od_Book_group_of_species, .func (PySem.W.fnOf "group_of_species" "Book.group_of_species" (defArgs s_Book_group_of_species) (defBody s_Book_group_of_species) (defScope s_Book_group_of_species) .none kV_Book_group_of_species dc_Book_group_of_species pm_Book_group_of_species an_Book_group_of_species cd_Book_group_of_species ct_Book_group_of_species), sl_Book_group_of_species⟩) (c_Book_group_of_species : PySem.W.codeIn K cd_Book_group_of_species "Book.group_of_species" = true) (k_Book_group_of_species : PySem.W.keepIn K (.ref f_Book_group_of_species) = true)
    {f_Book_group_of_genus : Addr} {od_Book_group_of_genus an_Book_group_of_genus : Option Addr} {sl_Book_group_of_genus : Array (Option Value)} {oc_Book_group_of_genus kV_Book_group_of_genus dc_Book_group_of_genus pm_Book_group_of_genus cd_Book_group_of_genus ct_Book_group_of_genus : Value}
    (a_Book_group_of_genus : PySem.W.findIn K (.ref C_Book) "group_of_genus" = some (some (.ref f_Book_group_of_genus))) (i_Book_group_of_genus : PySem.W.isFn K (.ref f_Book_group_of_genus) = true)
    (l_Book_group_of_genus : K.lookup f_Book_group_of_genus = some ⟨oc_Book_group_of_genus, od_Book_group_of_genus, .func (PySem.W.fnOf "group_of_genus" "Book.group_of_genus" (defArgs s_Book_group_of_genus) (defBody s_Book_group_of_genus) (defScope s_Book_group_of_genus) .none kV_Book_group_of_genus dc_Book_group_of_genus pm_Book_group_of_genus an_Book_group_of_genus cd_Book_group_of_genus ct_Book_group_of_genus), sl_Book_group_of_genus⟩) (c_Book_group_of_genus : PySem.W.codeIn K cd_Book_group_of_genus "Book.group_of_genus" = true) (k_Book_group_of_genus : PySem.W.keepIn K (.ref f_Book_group_of_genus) = true)
    {f_tell_group_name : Addr} {od_tell_group_name an_tell_group_name : Option Addr} {sl_tell_group_name : Array (Option Value)} {oc_tell_group_name kV_tell_group_name dc_tell_group_name pm_tell_group_name cd_tell_group_name ct_tell_group_name : Value}
    (a_tell_group_name : PySem.W.nsIn K mainGlobals "tell_group_name" = some (some (.ref f_tell_group_name)))
    (l_tell_group_name : K.lookup f_tell_group_name = some ⟨oc_tell_group_name, od_tell_group_name, .func (PySem.W.fnOf "tell_group_name" "tell_group_name" (defArgs s_tell_group_name) (defBody s_tell_group_name) (defScope s_tell_group_name) .none kV_tell_group_name dc_tell_group_name pm_tell_group_name an_tell_group_name cd_tell_group_name ct_tell_group_name), sl_tell_group_name⟩) (c_tell_group_name : PySem.W.codeIn K cd_tell_group_name "tell_group_name" = true) (k_tell_group_name : PySem.W.keepIn K (.ref f_tell_group_name) = true)
    {f_tell_kind_name : Addr} {od_tell_kind_name an_tell_kind_name : Option Addr} {sl_tell_kind_name : Array (Option Value)} {oc_tell_kind_name kV_tell_kind_name dc_tell_kind_name pm_tell_kind_name cd_tell_kind_name ct_tell_kind_name : Value}
    (a_tell_kind_name : PySem.W.nsIn K mainGlobals "tell_kind_name" = some (some (.ref f_tell_kind_name)))
    (l_tell_kind_name : K.lookup f_tell_kind_name = some ⟨oc_tell_kind_name, od_tell_kind_name, .func (PySem.W.fnOf "tell_kind_name" "tell_kind_name" (defArgs s_tell_kind_name) (defBody s_tell_kind_name) (defScope s_tell_kind_name) .none kV_tell_kind_name dc_tell_kind_name pm_tell_kind_name an_tell_kind_name cd_tell_kind_name ct_tell_kind_name), sl_tell_kind_name⟩) (c_tell_kind_name : PySem.W.codeIn K cd_tell_kind_name "tell_kind_name" = true) (k_tell_kind_name : PySem.W.keepIn K (.ref f_tell_kind_name) = true)
    {f_tell_status : Addr} {od_tell_status an_tell_status : Option Addr} {sl_tell_status : Array (Option Value)} {oc_tell_status kV_tell_status dc_tell_status pm_tell_status cd_tell_status ct_tell_status : Value}
    (a_tell_status : PySem.W.nsIn K mainGlobals "tell_status" = some (some (.ref f_tell_status)))
    (l_tell_status : K.lookup f_tell_status = some ⟨oc_tell_status, od_tell_status, .func (PySem.W.fnOf "tell_status" "tell_status" (defArgs s_tell_status) (defBody s_tell_status) (defScope s_tell_status) .none kV_tell_status dc_tell_status pm_tell_status an_tell_status cd_tell_status ct_tell_status), sl_tell_status⟩) (c_tell_status : PySem.W.codeIn K cd_tell_status "tell_status" = true) (k_tell_status : PySem.W.keepIn K (.ref f_tell_status) = true)
    {f_tell_kind_member : Addr} {od_tell_kind_member an_tell_kind_member : Option Addr} {sl_tell_kind_member : Array (Option Value)} {oc_tell_kind_member kV_tell_kind_member dc_tell_kind_member pm_tell_kind_member cd_tell_kind_member ct_tell_kind_member : Value}
    (a_tell_kind_member : PySem.W.nsIn K mainGlobals "tell_kind_member" = some (some (.ref f_tell_kind_member)))
    (l_tell_kind_member : K.lookup f_tell_kind_member = some ⟨oc_tell_kind_member, od_tell_kind_member, .func (PySem.W.fnOf "tell_kind_member" "tell_kind_member" (defArgs s_tell_kind_member) (defBody s_tell_kind_member) (defScope s_tell_kind_member) .none kV_tell_kind_member dc_tell_kind_member pm_tell_kind_member an_tell_kind_member cd_tell_kind_member ct_tell_kind_member), sl_tell_kind_member⟩) (c_tell_kind_member : PySem.W.codeIn K cd_tell_kind_member "tell_kind_member" = true) (k_tell_kind_member : PySem.W.keepIn K (.ref f_tell_kind_member) = true)
    {f_Reader_init : Addr} {od_Reader_init an_Reader_init : Option Addr} {sl_Reader_init : Array (Option Value)} {oc_Reader_init kV_Reader_init dc_Reader_init pm_Reader_init cd_Reader_init ct_Reader_init : Value}
    (a_Reader_init : PySem.W.findIn K (.ref C_Reader) "__init__" = some (some (.ref f_Reader_init))) (i_Reader_init : PySem.W.isFn K (.ref f_Reader_init) = true)
    (l_Reader_init : K.lookup f_Reader_init = some ⟨oc_Reader_init, od_Reader_init, .func (PySem.W.fnOf "__init__" "Reader.__init__" (defArgs s_Reader_init) (defBody s_Reader_init) (defScope s_Reader_init) .none kV_Reader_init dc_Reader_init pm_Reader_init an_Reader_init cd_Reader_init ct_Reader_init), sl_Reader_init⟩) (c_Reader_init : PySem.W.codeIn K cd_Reader_init "Reader.__init__" = true) (k_Reader_init : PySem.W.keepIn K (.ref f_Reader_init) = true)
    {f_Reader_is_done : Addr} {od_Reader_is_done an_Reader_is_done : Option Addr} {sl_Reader_is_done : Array (Option Value)} {oc_Reader_is_done kV_Reader_is_done dc_Reader_is_done pm_Reader_is_done cd_Reader_is_done ct_Reader_is_done : Value}
    (a_Reader_is_done : PySem.W.findIn K (.ref C_Reader) "is_done" = some (some (.ref f_Reader_is_done))) (i_Reader_is_done : PySem.W.isFn K (.ref f_Reader_is_done) = true)
    (l_Reader_is_done : K.lookup f_Reader_is_done = some ⟨oc_Reader_is_done, od_Reader_is_done, .func (PySem.W.fnOf "is_done" "Reader.is_done" (defArgs s_Reader_is_done) (defBody s_Reader_is_done) (defScope s_Reader_is_done) .none kV_Reader_is_done dc_Reader_is_done pm_Reader_is_done an_Reader_is_done cd_Reader_is_done ct_Reader_is_done), sl_Reader_is_done⟩) (c_Reader_is_done : PySem.W.codeIn K cd_Reader_is_done "Reader.is_done" = true) (k_Reader_is_done : PySem.W.keepIn K (.ref f_Reader_is_done) = true)
    {f_Reader_take_number : Addr} {od_Reader_take_number an_Reader_take_number : Option Addr} {sl_Reader_take_number : Array (Option Value)} {oc_Reader_take_number kV_Reader_take_number dc_Reader_take_number pm_Reader_take_number cd_Reader_take_number ct_Reader_take_number : Value}
    (a_Reader_take_number : PySem.W.findIn K (.ref C_Reader) "take_number" = some (some (.ref f_Reader_take_number))) (i_Reader_take_number : PySem.W.isFn K (.ref f_Reader_take_number) = true)
    (l_Reader_take_number : K.lookup f_Reader_take_number = some ⟨oc_Reader_take_number, od_Reader_take_number, .func (PySem.W.fnOf "take_number" "Reader.take_number" (defArgs s_Reader_take_number) (defBody s_Reader_take_number) (defScope s_Reader_take_number) .none kV_Reader_take_number dc_Reader_take_number pm_Reader_take_number an_Reader_take_number cd_Reader_take_number ct_Reader_take_number), sl_Reader_take_number⟩) (c_Reader_take_number : PySem.W.codeIn K cd_Reader_take_number "Reader.take_number" = true) (k_Reader_take_number : PySem.W.keepIn K (.ref f_Reader_take_number) = true)
    {f_Reader_take_row : Addr} {od_Reader_take_row an_Reader_take_row : Option Addr} {sl_Reader_take_row : Array (Option Value)} {oc_Reader_take_row kV_Reader_take_row dc_Reader_take_row pm_Reader_take_row cd_Reader_take_row ct_Reader_take_row : Value}
    (a_Reader_take_row : PySem.W.findIn K (.ref C_Reader) "take_row" = some (some (.ref f_Reader_take_row))) (i_Reader_take_row : PySem.W.isFn K (.ref f_Reader_take_row) = true)
    (l_Reader_take_row : K.lookup f_Reader_take_row = some ⟨oc_Reader_take_row, od_Reader_take_row, .func (PySem.W.fnOf "take_row" "Reader.take_row" (defArgs s_Reader_take_row) (defBody s_Reader_take_row) (defScope s_Reader_take_row) .none kV_Reader_take_row dc_Reader_take_row pm_Reader_take_row an_Reader_take_row cd_Reader_take_row ct_Reader_take_row), sl_Reader_take_row⟩) (c_Reader_take_row : PySem.W.codeIn K cd_Reader_take_row "Reader.take_row" = true) (k_Reader_take_row : PySem.W.keepIn K (.ref f_Reader_take_row) = true)
    {f_by_priority : Addr} {od_by_priority an_by_priority : Option Addr} {sl_by_priority : Array (Option Value)} {oc_by_priority kV_by_priority dc_by_priority pm_by_priority cd_by_priority ct_by_priority : Value}
    (a_by_priority : PySem.W.nsIn K mainGlobals "by_priority" = some (some (.ref f_by_priority)))
    (l_by_priority : K.lookup f_by_priority = some ⟨oc_by_priority, od_by_priority, .func (PySem.W.fnOf "by_priority" "by_priority" (defArgs s_by_priority) (defBody s_by_priority) (defScope s_by_priority) .none kV_by_priority dc_by_priority pm_by_priority an_by_priority cd_by_priority ct_by_priority), sl_by_priority⟩) (c_by_priority : PySem.W.codeIn K cd_by_priority "by_priority" = true) (k_by_priority : PySem.W.keepIn K (.ref f_by_priority) = true)
    {f_priority_key : Addr} {od_priority_key an_priority_key : Option Addr} {sl_priority_key : Array (Option Value)} {oc_priority_key kV_priority_key dc_priority_key pm_priority_key cd_priority_key ct_priority_key : Value}
    (a_priority_key : PySem.W.nsIn K mainGlobals "priority_key" = some (some (.ref f_priority_key)))
    (l_priority_key : K.lookup f_priority_key = some ⟨oc_priority_key, od_priority_key, .func (PySem.W.fnOf "priority_key" "priority_key" (defArgs s_priority_key) (defBody s_priority_key) (defScope s_priority_key) .none kV_priority_key dc_priority_key pm_priority_key an_priority_key cd_priority_key ct_priority_key), sl_priority_key⟩) (c_priority_key : PySem.W.codeIn K cd_priority_key "priority_key" = true) (k_priority_key : PySem.W.keepIn K (.ref f_priority_key) = true)
    {f_find_group_names : Addr} {od_find_group_names an_find_group_names : Option Addr} {sl_find_group_names : Array (Option Value)} {oc_find_group_names kV_find_group_names dc_find_group_names pm_find_group_names cd_find_group_names ct_find_group_names : Value}
    (a_find_group_names : PySem.W.nsIn K mainGlobals "find_group_names" = some (some (.ref f_find_group_names)))
    (l_find_group_names : K.lookup f_find_group_names = some ⟨oc_find_group_names, od_find_group_names, .func (PySem.W.fnOf "find_group_names" "find_group_names" (defArgs s_find_group_names) (defBody s_find_group_names) (defScope s_find_group_names) .none kV_find_group_names dc_find_group_names pm_find_group_names an_find_group_names cd_find_group_names ct_find_group_names), sl_find_group_names⟩) (c_find_group_names : PySem.W.codeIn K cd_find_group_names "find_group_names" = true) (k_find_group_names : PySem.W.keepIn K (.ref f_find_group_names) = true)
    {f_find_kind_members : Addr} {od_find_kind_members an_find_kind_members : Option Addr} {sl_find_kind_members : Array (Option Value)} {oc_find_kind_members kV_find_kind_members dc_find_kind_members pm_find_kind_members cd_find_kind_members ct_find_kind_members : Value}
    (a_find_kind_members : PySem.W.nsIn K mainGlobals "find_kind_members" = some (some (.ref f_find_kind_members)))
    (l_find_kind_members : K.lookup f_find_kind_members = some ⟨oc_find_kind_members, od_find_kind_members, .func (PySem.W.fnOf "find_kind_members" "find_kind_members" (defArgs s_find_kind_members) (defBody s_find_kind_members) (defScope s_find_kind_members) .none kV_find_kind_members dc_find_kind_members pm_find_kind_members an_find_kind_members cd_find_kind_members ct_find_kind_members), sl_find_kind_members⟩) (c_find_kind_members : PySem.W.codeIn K cd_find_kind_members "find_kind_members" = true) (k_find_kind_members : PySem.W.keepIn K (.ref f_find_kind_members) = true)
    {f_Judge_init : Addr} {od_Judge_init an_Judge_init : Option Addr} {sl_Judge_init : Array (Option Value)} {oc_Judge_init kV_Judge_init dc_Judge_init pm_Judge_init cd_Judge_init ct_Judge_init : Value}
    (a_Judge_init : PySem.W.findIn K (.ref C_Judge) "__init__" = some (some (.ref f_Judge_init))) (i_Judge_init : PySem.W.isFn K (.ref f_Judge_init) = true)
    (l_Judge_init : K.lookup f_Judge_init = some ⟨oc_Judge_init, od_Judge_init, .func (PySem.W.fnOf "__init__" "Judge.__init__" (defArgs s_Judge_init) (defBody s_Judge_init) (defScope s_Judge_init) .none kV_Judge_init dc_Judge_init pm_Judge_init an_Judge_init cd_Judge_init ct_Judge_init), sl_Judge_init⟩) (c_Judge_init : PySem.W.codeIn K cd_Judge_init "Judge.__init__" = true) (k_Judge_init : PySem.W.keepIn K (.ref f_Judge_init) = true)
    {f_Judge_find_status : Addr} {od_Judge_find_status an_Judge_find_status : Option Addr} {sl_Judge_find_status : Array (Option Value)} {oc_Judge_find_status kV_Judge_find_status dc_Judge_find_status pm_Judge_find_status cd_Judge_find_status ct_Judge_find_status : Value}
    (a_Judge_find_status : PySem.W.findIn K (.ref C_Judge) "find_status" = some (some (.ref f_Judge_find_status))) (i_Judge_find_status : PySem.W.isFn K (.ref f_Judge_find_status) = true)
    (l_Judge_find_status : K.lookup f_Judge_find_status = some ⟨oc_Judge_find_status, od_Judge_find_status, .func (PySem.W.fnOf "find_status" "Judge.find_status" (defArgs s_Judge_find_status) (defBody s_Judge_find_status) (defScope s_Judge_find_status) .none kV_Judge_find_status dc_Judge_find_status pm_Judge_find_status an_Judge_find_status cd_Judge_find_status ct_Judge_find_status), sl_Judge_find_status⟩) (c_Judge_find_status : PySem.W.codeIn K cd_Judge_find_status "Judge.find_status" = true) (k_Judge_find_status : PySem.W.keepIn K (.ref f_Judge_find_status) = true)
    {f_Standing_init : Addr} {od_Standing_init an_Standing_init : Option Addr} {sl_Standing_init : Array (Option Value)} {oc_Standing_init kV_Standing_init dc_Standing_init pm_Standing_init cd_Standing_init ct_Standing_init : Value}
    (a_Standing_init : PySem.W.findIn K (.ref C_Standing) "__init__" = some (some (.ref f_Standing_init))) (i_Standing_init : PySem.W.isFn K (.ref f_Standing_init) = true)
    (l_Standing_init : K.lookup f_Standing_init = some ⟨oc_Standing_init, od_Standing_init, .func (PySem.W.fnOf "__init__" "Standing.__init__" (defArgs s_Standing_init) (defBody s_Standing_init) (defScope s_Standing_init) .none kV_Standing_init dc_Standing_init pm_Standing_init an_Standing_init cd_Standing_init ct_Standing_init), sl_Standing_init⟩) (c_Standing_init : PySem.W.codeIn K cd_Standing_init "Standing.__init__" = true) (k_Standing_init : PySem.W.keepIn K (.ref f_Standing_init) = true)
    {f_answers : Addr} {od_answers an_answers : Option Addr} {sl_answers : Array (Option Value)} {oc_answers kV_answers dc_answers pm_answers cd_answers ct_answers : Value}
    (a_answers : PySem.W.nsIn K mainGlobals "answers" = some (some (.ref f_answers)))
    (l_answers : K.lookup f_answers = some ⟨oc_answers, od_answers, .func (PySem.W.fnOf "answers" "answers" (defArgs s_answers) (defBody s_answers) (defScope s_answers) .none kV_answers dc_answers pm_answers an_answers cd_answers ct_answers), sl_answers⟩) (c_answers : PySem.W.codeIn K cd_answers "answers" = true) (k_answers : PySem.W.keepIn K (.ref f_answers) = true)
    {f_answer_telling : Addr} {od_answer_telling an_answer_telling : Option Addr} {sl_answer_telling : Array (Option Value)} {oc_answer_telling kV_answer_telling dc_answer_telling pm_answer_telling cd_answer_telling ct_answer_telling : Value}
    (a_answer_telling : PySem.W.nsIn K mainGlobals "answer_telling" = some (some (.ref f_answer_telling)))
    (l_answer_telling : K.lookup f_answer_telling = some ⟨oc_answer_telling, od_answer_telling, .func (PySem.W.fnOf "answer_telling" "answer_telling" (defArgs s_answer_telling) (defBody s_answer_telling) (defScope s_answer_telling) .none kV_answer_telling dc_answer_telling pm_answer_telling an_answer_telling cd_answer_telling ct_answer_telling), sl_answer_telling⟩) (c_answer_telling : PySem.W.codeIn K cd_answer_telling "answer_telling" = true) (k_answer_telling : PySem.W.keepIn K (.ref f_answer_telling) = true)
    {f_answer_question : Addr} {od_answer_question an_answer_question : Option Addr} {sl_answer_question : Array (Option Value)} {oc_answer_question kV_answer_question dc_answer_question pm_answer_question cd_answer_question ct_answer_question : Value}
    (a_answer_question : PySem.W.nsIn K mainGlobals "answer_question" = some (some (.ref f_answer_question)))
    (l_answer_question : K.lookup f_answer_question = some ⟨oc_answer_question, od_answer_question, .func (PySem.W.fnOf "answer_question" "answer_question" (defArgs s_answer_question) (defBody s_answer_question) (defScope s_answer_question) .none kV_answer_question dc_answer_question pm_answer_question an_answer_question cd_answer_question ct_answer_question), sl_answer_question⟩) (c_answer_question : PySem.W.codeIn K cd_answer_question "answer_question" = true) (k_answer_question : PySem.W.keepIn K (.ref f_answer_question) = true)
    {f_answer_genus : Addr} {od_answer_genus an_answer_genus : Option Addr} {sl_answer_genus : Array (Option Value)} {oc_answer_genus kV_answer_genus dc_answer_genus pm_answer_genus cd_answer_genus ct_answer_genus : Value}
    (a_answer_genus : PySem.W.nsIn K mainGlobals "answer_genus" = some (some (.ref f_answer_genus)))
    (l_answer_genus : K.lookup f_answer_genus = some ⟨oc_answer_genus, od_answer_genus, .func (PySem.W.fnOf "answer_genus" "answer_genus" (defArgs s_answer_genus) (defBody s_answer_genus) (defScope s_answer_genus) .none kV_answer_genus dc_answer_genus pm_answer_genus an_answer_genus cd_answer_genus ct_answer_genus), sl_answer_genus⟩) (c_answer_genus : PySem.W.codeIn K cd_answer_genus "answer_genus" = true) (k_answer_genus : PySem.W.keepIn K (.ref f_answer_genus) = true)
    {f_answer_species : Addr} {od_answer_species an_answer_species : Option Addr} {sl_answer_species : Array (Option Value)} {oc_answer_species kV_answer_species dc_answer_species pm_answer_species cd_answer_species ct_answer_species : Value}
    (a_answer_species : PySem.W.nsIn K mainGlobals "answer_species" = some (some (.ref f_answer_species)))
    (l_answer_species : K.lookup f_answer_species = some ⟨oc_answer_species, od_answer_species, .func (PySem.W.fnOf "answer_species" "answer_species" (defArgs s_answer_species) (defBody s_answer_species) (defScope s_answer_species) .none kV_answer_species dc_answer_species pm_answer_species an_answer_species cd_answer_species ct_answer_species), sl_answer_species⟩) (c_answer_species : PySem.W.codeIn K cd_answer_species "answer_species" = true) (k_answer_species : PySem.W.keepIn K (.ref f_answer_species) = true)
    {f_answer_tie : Addr} {od_answer_tie an_answer_tie : Option Addr} {sl_answer_tie : Array (Option Value)} {oc_answer_tie kV_answer_tie dc_answer_tie pm_answer_tie cd_answer_tie ct_answer_tie : Value}
    (a_answer_tie : PySem.W.nsIn K mainGlobals "answer_tie" = some (some (.ref f_answer_tie)))
    (l_answer_tie : K.lookup f_answer_tie = some ⟨oc_answer_tie, od_answer_tie, .func (PySem.W.fnOf "answer_tie" "answer_tie" (defArgs s_answer_tie) (defBody s_answer_tie) (defScope s_answer_tie) .none kV_answer_tie dc_answer_tie pm_answer_tie an_answer_tie cd_answer_tie ct_answer_tie), sl_answer_tie⟩) (c_answer_tie : PySem.W.codeIn K cd_answer_tie "answer_tie" = true) (k_answer_tie : PySem.W.keepIn K (.ref f_answer_tie) = true)
    {f_answer_rule : Addr} {od_answer_rule an_answer_rule : Option Addr} {sl_answer_rule : Array (Option Value)} {oc_answer_rule kV_answer_rule dc_answer_rule pm_answer_rule cd_answer_rule ct_answer_rule : Value}
    (a_answer_rule : PySem.W.nsIn K mainGlobals "answer_rule" = some (some (.ref f_answer_rule)))
    (l_answer_rule : K.lookup f_answer_rule = some ⟨oc_answer_rule, od_answer_rule, .func (PySem.W.fnOf "answer_rule" "answer_rule" (defArgs s_answer_rule) (defBody s_answer_rule) (defScope s_answer_rule) .none kV_answer_rule dc_answer_rule pm_answer_rule an_answer_rule cd_answer_rule ct_answer_rule), sl_answer_rule⟩) (c_answer_rule : PySem.W.codeIn K cd_answer_rule "answer_rule" = true) (k_answer_rule : PySem.W.keepIn K (.ref f_answer_rule) = true)
    {f_answer_kind : Addr} {od_answer_kind an_answer_kind : Option Addr} {sl_answer_kind : Array (Option Value)} {oc_answer_kind kV_answer_kind dc_answer_kind pm_answer_kind cd_answer_kind ct_answer_kind : Value}
    (a_answer_kind : PySem.W.nsIn K mainGlobals "answer_kind" = some (some (.ref f_answer_kind)))
    (l_answer_kind : K.lookup f_answer_kind = some ⟨oc_answer_kind, od_answer_kind, .func (PySem.W.fnOf "answer_kind" "answer_kind" (defArgs s_answer_kind) (defBody s_answer_kind) (defScope s_answer_kind) .none kV_answer_kind dc_answer_kind pm_answer_kind an_answer_kind cd_answer_kind ct_answer_kind), sl_answer_kind⟩) (c_answer_kind : PySem.W.codeIn K cd_answer_kind "answer_kind" = true) (k_answer_kind : PySem.W.keepIn K (.ref f_answer_kind) = true)
    {f_answer_group : Addr} {od_answer_group an_answer_group : Option Addr} {sl_answer_group : Array (Option Value)} {oc_answer_group kV_answer_group dc_answer_group pm_answer_group cd_answer_group ct_answer_group : Value}
    (a_answer_group : PySem.W.nsIn K mainGlobals "answer_group" = some (some (.ref f_answer_group)))
    (l_answer_group : K.lookup f_answer_group = some ⟨oc_answer_group, od_answer_group, .func (PySem.W.fnOf "answer_group" "answer_group" (defArgs s_answer_group) (defBody s_answer_group) (defScope s_answer_group) .none kV_answer_group dc_answer_group pm_answer_group an_answer_group cd_answer_group ct_answer_group), sl_answer_group⟩) (c_answer_group : PySem.W.codeIn K cd_answer_group "answer_group" = true) (k_answer_group : PySem.W.keepIn K (.ref f_answer_group) = true)
    {f_answer_names : Addr} {od_answer_names an_answer_names : Option Addr} {sl_answer_names : Array (Option Value)} {oc_answer_names kV_answer_names dc_answer_names pm_answer_names cd_answer_names ct_answer_names : Value}
    (a_answer_names : PySem.W.nsIn K mainGlobals "answer_names" = some (some (.ref f_answer_names)))
    (l_answer_names : K.lookup f_answer_names = some ⟨oc_answer_names, od_answer_names, .func (PySem.W.fnOf "answer_names" "answer_names" (defArgs s_answer_names) (defBody s_answer_names) (defScope s_answer_names) .none kV_answer_names dc_answer_names pm_answer_names an_answer_names cd_answer_names ct_answer_names), sl_answer_names⟩) (c_answer_names : PySem.W.codeIn K cd_answer_names "answer_names" = true) (k_answer_names : PySem.W.keepIn K (.ref f_answer_names) = true)
    (pg_Genus : PySem.W.plainGet K C_Genus Str.empty = true) (hd_Genus : PySem.W.hasDictIn K C_Genus = true) (po_Genus : PySem.W.plainOver K C_Genus = true) (sa_Genus : PySem.W.findIn K (.ref C_Genus) "__setattr__" = some (some (.builtin "object.__setattr__"))) (mk_Genus : PySem.W.makesIn K C_Genus = true) (kc_Genus : PySem.W.keepIn K (.ref C_Genus) = true)
    (n_Genus_word : PySem.W.findIn K (.ref C_Genus) "word" = some none)
    (n_Genus_day : PySem.W.findIn K (.ref C_Genus) "day" = some none)
    (n_Genus_anchor : PySem.W.findIn K (.ref C_Genus) "anchor" = some none)
    (n_Genus_ruling : PySem.W.findIn K (.ref C_Genus) "ruling" = some none)
    (pg_Species : PySem.W.plainGet K C_Species Str.empty = true) (hd_Species : PySem.W.hasDictIn K C_Species = true) (po_Species : PySem.W.plainOver K C_Species = true) (sa_Species : PySem.W.findIn K (.ref C_Species) "__setattr__" = some (some (.builtin "object.__setattr__"))) (mk_Species : PySem.W.makesIn K C_Species = true) (kc_Species : PySem.W.keepIn K (.ref C_Species) = true)
    (n_Species_genus : PySem.W.findIn K (.ref C_Species) "genus" = some none)
    (n_Species_word : PySem.W.findIn K (.ref C_Species) "word" = some none)
    (n_Species_day : PySem.W.findIn K (.ref C_Species) "day" = some none)
    (n_Species_specimen : PySem.W.findIn K (.ref C_Species) "specimen" = some none)
    (n_Species_ruling : PySem.W.findIn K (.ref C_Species) "ruling" = some none)
    (pg_Book : PySem.W.plainGet K C_Book Str.empty = true) (hd_Book : PySem.W.hasDictIn K C_Book = true) (po_Book : PySem.W.plainOver K C_Book = true) (sa_Book : PySem.W.findIn K (.ref C_Book) "__setattr__" = some (some (.builtin "object.__setattr__"))) (mk_Book : PySem.W.makesIn K C_Book = true) (kc_Book : PySem.W.keepIn K (.ref C_Book) = true)
    (n_Book_genera : PySem.W.findIn K (.ref C_Book) "genera" = some none)
    (n_Book_species : PySem.W.findIn K (.ref C_Book) "species" = some none)
    (n_Book_kinds : PySem.W.findIn K (.ref C_Book) "kinds" = some none)
    (n_Book_groups : PySem.W.findIn K (.ref C_Book) "groups" = some none)
    (pg_Reader : PySem.W.plainGet K C_Reader Str.empty = true) (hd_Reader : PySem.W.hasDictIn K C_Reader = true) (po_Reader : PySem.W.plainOver K C_Reader = true) (sa_Reader : PySem.W.findIn K (.ref C_Reader) "__setattr__" = some (some (.builtin "object.__setattr__"))) (mk_Reader : PySem.W.makesIn K C_Reader = true) (kc_Reader : PySem.W.keepIn K (.ref C_Reader) = true)
    (n_Reader_numbers : PySem.W.findIn K (.ref C_Reader) "numbers" = some none)
    (n_Reader_place : PySem.W.findIn K (.ref C_Reader) "place" = some none)
    (pg_Judge : PySem.W.plainGet K C_Judge Str.empty = true) (hd_Judge : PySem.W.hasDictIn K C_Judge = true) (po_Judge : PySem.W.plainOver K C_Judge = true) (sa_Judge : PySem.W.findIn K (.ref C_Judge) "__setattr__" = some (some (.builtin "object.__setattr__"))) (mk_Judge : PySem.W.makesIn K C_Judge = true) (kc_Judge : PySem.W.keepIn K (.ref C_Judge) = true)
    (n_Judge_book : PySem.W.findIn K (.ref C_Judge) "book" = some none)
    (n_Judge_births_taken : PySem.W.findIn K (.ref C_Judge) "births_taken" = some none)
    (n_Judge_group_words_taken : PySem.W.findIn K (.ref C_Judge) "group_words_taken" = some none)
    (n_Judge_words_found : PySem.W.findIn K (.ref C_Judge) "words_found" = some none)
    (pg_Standing : PySem.W.plainGet K C_Standing Str.empty = true) (hd_Standing : PySem.W.hasDictIn K C_Standing = true) (po_Standing : PySem.W.plainOver K C_Standing = true) (sa_Standing : PySem.W.findIn K (.ref C_Standing) "__setattr__" = some (some (.builtin "object.__setattr__"))) (mk_Standing : PySem.W.makesIn K C_Standing = true) (kc_Standing : PySem.W.keepIn K (.ref C_Standing) = true)
    (n_Standing_group_names : PySem.W.findIn K (.ref C_Standing) "group_names" = some none)
    (n_Standing_kind_members : PySem.W.findIn K (.ref C_Standing) "kind_members" = some none)
    (n_Standing_statuses : PySem.W.findIn K (.ref C_Standing) "statuses" = some none)
    (n_Standing_kind_words : PySem.W.findIn K (.ref C_Standing) "kind_words" = some none)
    {t_FOREIGN : Tok} (q_FOREIGN : PySem.W.nsIn K mainGlobals "FOREIGN" = some (some (.int (-1) t_FOREIGN)))
    {t_MISSING : Tok} (q_MISSING : PySem.W.nsIn K mainGlobals "MISSING" = some (some (.int (-2) t_MISSING)))
    {t_TAKEN : Tok} (q_TAKEN : PySem.W.nsIn K mainGlobals "TAKEN" = some (some (.int (-17) t_TAKEN)))
    {t_WRONG : Tok} (q_WRONG : PySem.W.nsIn K mainGlobals "WRONG" = some (some (.int (-22) t_WRONG)))
    {t_FULL : Tok} (q_FULL : PySem.W.nsIn K mainGlobals "FULL" = some (some (.int (-28) t_FULL)))
    {t_SHORTEST : Tok} (q_SHORTEST : PySem.W.nsIn K mainGlobals "SHORTEST" = some (some (.int 2 t_SHORTEST)))
    {t_LONGEST : Tok} (q_LONGEST : PySem.W.nsIn K mainGlobals "LONGEST" = some (some (.int 24 t_LONGEST)))
    {t_MOST_GENERA : Tok} (q_MOST_GENERA : PySem.W.nsIn K mainGlobals "MOST_GENERA" = some (some (.int 256 t_MOST_GENERA)))
    {t_MOST_SPECIES : Tok} (q_MOST_SPECIES : PySem.W.nsIn K mainGlobals "MOST_SPECIES" = some (some (.int 1024 t_MOST_SPECIES)))
    {t_LAST_DAY : Tok} (q_LAST_DAY : PySem.W.nsIn K mainGlobals "LAST_DAY" = some (some (.int 1048576 t_LAST_DAY)))
    {t_SPECIMENS : Tok} (q_SPECIMENS : PySem.W.nsIn K mainGlobals "SPECIMENS" = some (some (.int 1024 t_SPECIMENS)))
    {t_NO_KIND : Tok} (q_NO_KIND : PySem.W.nsIn K mainGlobals "NO_KIND" = some (some (.int 256 t_NO_KIND)))
    {t_NO_GROUP : Tok} (q_NO_GROUP : PySem.W.nsIn K mainGlobals "NO_GROUP" = some (some (.int 64 t_NO_GROUP)))
    {t_GENUS_RANK : Tok} (q_GENUS_RANK : PySem.W.nsIn K mainGlobals "GENUS_RANK" = some (some (.int 0 t_GENUS_RANK)))
    {t_SPECIES_RANK : Tok} (q_SPECIES_RANK : PySem.W.nsIn K mainGlobals "SPECIES_RANK" = some (some (.int 1 t_SPECIES_RANK)))
    {t_NOTHING_RULED : Tok} (q_NOTHING_RULED : PySem.W.nsIn K mainGlobals "NOTHING_RULED" = some (some (.int 0 t_NOTHING_RULED)))
    {t_REJECTED : Tok} (q_REJECTED : PySem.W.nsIn K mainGlobals "REJECTED" = some (some (.int 1 t_REJECTED)))
    {t_CONSERVED : Tok} (q_CONSERVED : PySem.W.nsIn K mainGlobals "CONSERVED" = some (some (.int 2 t_CONSERVED)))
    {t_NOTHING_THERE : Tok} (q_NOTHING_THERE : PySem.W.nsIn K mainGlobals "NOTHING_THERE" = some (some (.int 0 t_NOTHING_THERE)))
    {t_FOUND : Tok} (q_FOUND : PySem.W.nsIn K mainGlobals "FOUND" = some (some (.int 1 t_FOUND)))
    {t_KINDS_WORD : Tok} (q_KINDS_WORD : PySem.W.nsIn K mainGlobals "KINDS_WORD" = some (some (.int 0 t_KINDS_WORD)))
    {t_OTHER_IS_WORD : Tok} (q_OTHER_IS_WORD : PySem.W.nsIn K mainGlobals "OTHER_IS_WORD" = some (some (.int 1 t_OTHER_IS_WORD)))
    {t_HOMONYM_FROM_BIRTH : Tok} (q_HOMONYM_FROM_BIRTH : PySem.W.nsIn K mainGlobals "HOMONYM_FROM_BIRTH" = some (some (.int 2 t_HOMONYM_FROM_BIRTH)))
    {t_HOMONYM_IN_GROUP : Tok} (q_HOMONYM_IN_GROUP : PySem.W.nsIn K mainGlobals "HOMONYM_IN_GROUP" = some (some (.int 3 t_HOMONYM_IN_GROUP)))
    {t_IS_REJECTED : Tok} (q_IS_REJECTED : PySem.W.nsIn K mainGlobals "IS_REJECTED" = some (some (.int 4 t_IS_REJECTED)))
    {t_NOWHERE : Tok} (q_NOWHERE : PySem.W.nsIn K mainGlobals "NOWHERE" = some (some (.int 5 t_NOWHERE)))
    {t_BEGIN : Tok} (q_BEGIN : PySem.W.nsIn K mainGlobals "BEGIN" = some (some (.int 0 t_BEGIN)))
    {t_GENUS : Tok} (q_GENUS : PySem.W.nsIn K mainGlobals "GENUS" = some (some (.int 1 t_GENUS)))
    {t_SPECIES : Tok} (q_SPECIES : PySem.W.nsIn K mainGlobals "SPECIES" = some (some (.int 2 t_SPECIES)))
    {t_TIE : Tok} (q_TIE : PySem.W.nsIn K mainGlobals "TIE" = some (some (.int 3 t_TIE)))
    {t_RULE : Tok} (q_RULE : PySem.W.nsIn K mainGlobals "RULE" = some (some (.int 4 t_RULE)))
    {t_KIND : Tok} (q_KIND : PySem.W.nsIn K mainGlobals "KIND" = some (some (.int 5 t_KIND)))
    {t_GROUP : Tok} (q_GROUP : PySem.W.nsIn K mainGlobals "GROUP" = some (some (.int 6 t_GROUP)))
    {t_GENUS_OF : Tok} (q_GENUS_OF : PySem.W.nsIn K mainGlobals "GENUS_OF" = some (some (.int 7 t_GENUS_OF)))
    {t_NAME : Tok} (q_NAME : PySem.W.nsIn K mainGlobals "NAME" = some (some (.int 8 t_NAME)))
    {t_STATUS : Tok} (q_STATUS : PySem.W.nsIn K mainGlobals "STATUS" = some (some (.int 9 t_STATUS)))
    {t_NAMES : Tok} (q_NAMES : PySem.W.nsIn K mainGlobals "NAMES" = some (some (.int 10 t_NAMES)))
    (b_all : PySem.W.nsIn K mainGlobals "all" = some none)
    (b_len : PySem.W.nsIn K mainGlobals "len" = some none)
    (b_list : PySem.W.nsIn K mainGlobals "list" = some none)
    (b_range : PySem.W.nsIn K mainGlobals "range" = some none)
    (b_sorted : PySem.W.nsIn K mainGlobals "sorted" = some none)
    (b_tuple : PySem.W.nsIn K mainGlobals "tuple" = some none)
    {c_bp P_bp : Addr} {od_bp : Option Addr} {vs_bp : Array Value} {sl_bp : Array (Option Value)} {file_bp : Str} {tf_bp tg_bp tt_bp : Tok} {flags_bp text_bp : Int} {inF_bp : Bool} (e_cd : cd_by_priority = .ref c_bp) (lc_bp : K.lookup c_bp = some ⟨.type "code", od_bp, .fields vs_bp, sl_bp⟩) (v11_bp : vs_bp[11]? = some (.ref P_bp)) (g11_bp : vs_bp.getD 11 .none = .ref P_bp)
    (g18_bp : vs_bp.getD 18 .none = .str file_bp tf_bp) (g7_bp : vs_bp.getD 7 .none = .int flags_bp tg_bp) (g9_bp : vs_bp.getD 9 .none = .bool inF_bp) (g10_bp : vs_bp.getD 10 .none = .int text_bp tt_bp) (ne_bp : c_bp ≠ P_bp) (no_bp : K.lookup P_bp = none) (tb_bp : PySem.W.tabIn K "by_priority" = some (c_bp, P_bp))
    : ∃ t : Adr, Txt K mg t := by
  have F_is_genus_word := fun_mk (st := s_is_genus_word) l_is_genus_word c_is_genus_word k_is_genus_word
  have b_is_genus_word := F_is_genus_word.binds (ps := ["word"]) fun _ _ _ _ _ _ us hl => match us, hl with | [_], _ => rfl
  have F_is_species_word := fun_mk (st := s_is_species_word) l_is_species_word c_is_species_word k_is_species_word
  have b_is_species_word := F_is_species_word.binds (ps := ["word"]) fun _ _ _ _ _ _ us hl => match us, hl with | [_], _ => rfl
  have F_has_word_length := fun_mk (st := s_has_word_length) l_has_word_length c_has_word_length k_has_word_length
  have b_has_word_length := F_has_word_length.binds (ps := ["word"]) fun _ _ _ _ _ _ us hl => match us, hl with | [_], _ => rfl
  have F_is_great := fun_mk (st := s_is_great) l_is_great c_is_great k_is_great
  have b_is_great := F_is_great.binds (ps := ["letter"]) fun _ _ _ _ _ _ us hl => match us, hl with | [_], _ => rfl
  have F_is_small := fun_mk (st := s_is_small) l_is_small c_is_small k_is_small
  have b_is_small := F_is_small.binds (ps := ["letter"]) fun _ _ _ _ _ _ us hl => match us, hl with | [_], _ => rfl
  have F_are_small := fun_mk (st := s_are_small) l_are_small c_are_small k_are_small
  have b_are_small := F_are_small.binds (ps := ["letters"]) fun _ _ _ _ _ _ us hl => match us, hl with | [_], _ => rfl
  have F_Genus_init := fun_mk (st := s_Genus_init) l_Genus_init c_Genus_init k_Genus_init
  have b_Genus_init := F_Genus_init.binds (ps := ["self", "word", "day"]) fun _ _ _ _ _ _ us hl => match us, hl with | [_, _, _], _ => rfl
  have F_Species_init := fun_mk (st := s_Species_init) l_Species_init c_Species_init k_Species_init
  have b_Species_init := F_Species_init.binds (ps := ["self", "genus", "word", "day", "specimen"]) fun _ _ _ _ _ _ us hl => match us, hl with | [_, _, _, _, _], _ => rfl
  have F_Book_init := fun_mk (st := s_Book_init) l_Book_init c_Book_init k_Book_init
  have b_Book_init := F_Book_init.binds (ps := ["self"]) fun _ _ _ _ _ _ us hl => match us, hl with | [_], _ => rfl
  have F_Book_begin := fun_mk (st := s_Book_begin) l_Book_begin c_Book_begin k_Book_begin
  have b_Book_begin := F_Book_begin.binds (ps := ["self"]) fun _ _ _ _ _ _ us hl => match us, hl with | [_], _ => rfl
  have F_Book_add_genus := fun_mk (st := s_Book_add_genus) l_Book_add_genus c_Book_add_genus k_Book_add_genus
  have b_Book_add_genus := F_Book_add_genus.binds (ps := ["self", "word", "day"]) fun _ _ _ _ _ _ us hl => match us, hl with | [_, _, _], _ => rfl
  have F_Book_add_species := fun_mk (st := s_Book_add_species) l_Book_add_species c_Book_add_species k_Book_add_species
  have b_Book_add_species := F_Book_add_species.binds (ps := ["self", "genus", "word", "day", "specimen"]) fun _ _ _ _ _ _ us hl => match us, hl with | [_, _, _, _, _], _ => rfl
  have F_Book_tie_genus := fun_mk (st := s_Book_tie_genus) l_Book_tie_genus c_Book_tie_genus k_Book_tie_genus
  have b_Book_tie_genus := F_Book_tie_genus.binds (ps := ["self", "genus", "species"]) fun _ _ _ _ _ _ us hl => match us, hl with | [_, _, _], _ => rfl
  have F_Book_birth_word := fun_mk (st := s_Book_birth_word) l_Book_birth_word c_Book_birth_word k_Book_birth_word
  have b_Book_birth_word := F_Book_birth_word.binds (ps := ["self", "species"]) fun _ _ _ _ _ _ us hl => match us, hl with | [_, _], _ => rfl
  have F_Book_rule_name := fun_mk (st := s_Book_rule_name) l_Book_rule_name c_Book_rule_name k_Book_rule_name
  have b_Book_rule_name := F_Book_rule_name.binds (ps := ["self", "rank", "number", "ruled"]) fun _ _ _ _ _ _ us hl => match us, hl with | [_, _, _, _], _ => rfl
  have F_Book_place_specimen := fun_mk (st := s_Book_place_specimen) l_Book_place_specimen c_Book_place_specimen k_Book_place_specimen
  have b_Book_place_specimen := F_Book_place_specimen.binds (ps := ["self", "specimen", "kind"]) fun _ _ _ _ _ _ us hl => match us, hl with | [_, _, _], _ => rfl
  have F_Book_place_kind := fun_mk (st := s_Book_place_kind) l_Book_place_kind c_Book_place_kind k_Book_place_kind
  have b_Book_place_kind := F_Book_place_kind.binds (ps := ["self", "kind", "group"]) fun _ _ _ _ _ _ us hl => match us, hl with | [_, _, _], _ => rfl
  have F_Book_kind_of_species := fun_mk (st := s_Book_kind_of_species) l_Book_kind_of_species c_Book_kind_of_species k_Book_kind_of_species
  have b_Book_kind_of_species := F_Book_kind_of_species.binds (ps := ["self", "species"]) fun _ _ _ _ _ _ us hl => match us, hl with | [_, _], _ => rfl
  have F_Book_group_of_species := fun_mk (st := s_Book_group_of_species) l_Book_group_of_species c_Book_group_of_species k_Book_group_of_species
  have b_Book_group_of_species := F_Book_group_of_species.binds (ps := ["self", "species"]) fun _ _ _ _ _ _ us hl => match us, hl with | [_, _], _ => rfl
  have F_Book_group_of_genus := fun_mk (st := s_Book_group_of_genus) l_Book_group_of_genus c_Book_group_of_genus k_Book_group_of_genus
  have b_Book_group_of_genus := F_Book_group_of_genus.binds (ps := ["self", "genus"]) fun _ _ _ _ _ _ us hl => match us, hl with | [_, _], _ => rfl
  have F_tell_group_name := fun_mk (st := s_tell_group_name) l_tell_group_name c_tell_group_name k_tell_group_name
  have b_tell_group_name := F_tell_group_name.binds (ps := ["standing", "group"]) fun _ _ _ _ _ _ us hl => match us, hl with | [_, _], _ => rfl
  have F_tell_kind_name := fun_mk (st := s_tell_kind_name) l_tell_kind_name c_tell_kind_name k_tell_kind_name
  have b_tell_kind_name := F_tell_kind_name.binds (ps := ["book", "standing", "kind"]) fun _ _ _ _ _ _ us hl => match us, hl with | [_, _, _], _ => rfl
  have F_tell_status := fun_mk (st := s_tell_status) l_tell_status c_tell_status k_tell_status
  have b_tell_status := F_tell_status.binds (ps := ["standing", "species"]) fun _ _ _ _ _ _ us hl => match us, hl with | [_, _], _ => rfl
  have F_tell_kind_member := fun_mk (st := s_tell_kind_member) l_tell_kind_member c_tell_kind_member k_tell_kind_member
  have b_tell_kind_member := F_tell_kind_member.binds (ps := ["standing", "kind", "place"]) fun _ _ _ _ _ _ us hl => match us, hl with | [_, _, _], _ => rfl
  have F_Reader_init := fun_mk (st := s_Reader_init) l_Reader_init c_Reader_init k_Reader_init
  have b_Reader_init := F_Reader_init.binds (ps := ["self", "numbers"]) fun _ _ _ _ _ _ us hl => match us, hl with | [_, _], _ => rfl
  have F_Reader_is_done := fun_mk (st := s_Reader_is_done) l_Reader_is_done c_Reader_is_done k_Reader_is_done
  have b_Reader_is_done := F_Reader_is_done.binds (ps := ["self"]) fun _ _ _ _ _ _ us hl => match us, hl with | [_], _ => rfl
  have F_Reader_take_number := fun_mk (st := s_Reader_take_number) l_Reader_take_number c_Reader_take_number k_Reader_take_number
  have b_Reader_take_number := F_Reader_take_number.binds (ps := ["self"]) fun _ _ _ _ _ _ us hl => match us, hl with | [_], _ => rfl
  have F_Reader_take_row := fun_mk (st := s_Reader_take_row) l_Reader_take_row c_Reader_take_row k_Reader_take_row
  have b_Reader_take_row := F_Reader_take_row.binds (ps := ["self"]) fun _ _ _ _ _ _ us hl => match us, hl with | [_], _ => rfl
  have F_by_priority := fun_mk (st := s_by_priority) l_by_priority c_by_priority k_by_priority
  have b_by_priority := F_by_priority.binds (ps := ["names"]) fun _ _ _ _ _ _ us hl => match us, hl with | [_], _ => rfl
  have F_priority_key := fun_mk (st := s_priority_key) l_priority_key c_priority_key k_priority_key
  have b_priority_key := F_priority_key.binds (ps := ["name", "number"]) fun _ _ _ _ _ _ us hl => match us, hl with | [_, _], _ => rfl
  have F_find_group_names := fun_mk (st := s_find_group_names) l_find_group_names c_find_group_names k_find_group_names
  have b_find_group_names := F_find_group_names.binds (ps := ["book"]) fun _ _ _ _ _ _ us hl => match us, hl with | [_], _ => rfl
  have F_find_kind_members := fun_mk (st := s_find_kind_members) l_find_kind_members c_find_kind_members k_find_kind_members
  have b_find_kind_members := F_find_kind_members.binds (ps := ["book", "order"]) fun _ _ _ _ _ _ us hl => match us, hl with | [_, _], _ => rfl
  have F_Judge_init := fun_mk (st := s_Judge_init) l_Judge_init c_Judge_init k_Judge_init
  have b_Judge_init := F_Judge_init.binds (ps := ["self", "book"]) fun _ _ _ _ _ _ us hl => match us, hl with | [_, _], _ => rfl
  have F_Judge_find_status := fun_mk (st := s_Judge_find_status) l_Judge_find_status c_Judge_find_status k_Judge_find_status
  have b_Judge_find_status := F_Judge_find_status.binds (ps := ["self", "number"]) fun _ _ _ _ _ _ us hl => match us, hl with | [_, _], _ => rfl
  have F_Standing_init := fun_mk (st := s_Standing_init) l_Standing_init c_Standing_init k_Standing_init
  have b_Standing_init := F_Standing_init.binds (ps := ["self", "book"]) fun _ _ _ _ _ _ us hl => match us, hl with | [_, _], _ => rfl
  have F_answers := fun_mk (st := s_answers) l_answers c_answers k_answers
  have b_answers := F_answers.binds (ps := ["calls"]) fun _ _ _ _ _ _ us hl => match us, hl with | [_], _ => rfl
  have F_answer_telling := fun_mk (st := s_answer_telling) l_answer_telling c_answer_telling k_answer_telling
  have b_answer_telling := F_answer_telling.binds (ps := ["book", "call", "reader"]) fun _ _ _ _ _ _ us hl => match us, hl with | [_, _, _], _ => rfl
  have F_answer_question := fun_mk (st := s_answer_question) l_answer_question c_answer_question k_answer_question
  have b_answer_question := F_answer_question.binds (ps := ["book", "standing", "call", "reader"]) fun _ _ _ _ _ _ us hl => match us, hl with | [_, _, _, _], _ => rfl
  have F_answer_genus := fun_mk (st := s_answer_genus) l_answer_genus c_answer_genus k_answer_genus
  have b_answer_genus := F_answer_genus.binds (ps := ["book", "reader"]) fun _ _ _ _ _ _ us hl => match us, hl with | [_, _], _ => rfl
  have F_answer_species := fun_mk (st := s_answer_species) l_answer_species c_answer_species k_answer_species
  have b_answer_species := F_answer_species.binds (ps := ["book", "reader"]) fun _ _ _ _ _ _ us hl => match us, hl with | [_, _], _ => rfl
  have F_answer_tie := fun_mk (st := s_answer_tie) l_answer_tie c_answer_tie k_answer_tie
  have b_answer_tie := F_answer_tie.binds (ps := ["book", "reader"]) fun _ _ _ _ _ _ us hl => match us, hl with | [_, _], _ => rfl
  have F_answer_rule := fun_mk (st := s_answer_rule) l_answer_rule c_answer_rule k_answer_rule
  have b_answer_rule := F_answer_rule.binds (ps := ["book", "reader"]) fun _ _ _ _ _ _ us hl => match us, hl with | [_, _], _ => rfl
  have F_answer_kind := fun_mk (st := s_answer_kind) l_answer_kind c_answer_kind k_answer_kind
  have b_answer_kind := F_answer_kind.binds (ps := ["book", "reader"]) fun _ _ _ _ _ _ us hl => match us, hl with | [_, _], _ => rfl
  have F_answer_group := fun_mk (st := s_answer_group) l_answer_group c_answer_group k_answer_group
  have b_answer_group := F_answer_group.binds (ps := ["book", "reader"]) fun _ _ _ _ _ _ us hl => match us, hl with | [_, _], _ => rfl
  have F_answer_names := fun_mk (st := s_answer_names) l_answer_names c_answer_names k_answer_names
  have b_answer_names := F_answer_names.binds (ps := ["standing", "reader"]) fun _ _ _ _ _ _ us hl => match us, hl with | [_, _], _ => rfl
  exact ⟨⟨C_Genus, C_Species, C_Book, C_Reader, C_Judge, C_Standing, f_is_genus_word, _, f_is_species_word, _, f_has_word_length, _, f_is_great, _, f_is_small, _, f_are_small, _, f_Genus_init, _, f_Species_init, _, f_Book_init, _, f_Book_begin, _, f_Book_add_genus, _, f_Book_add_species, _, f_Book_tie_genus, _, f_Book_birth_word, _, f_Book_rule_name, _, f_Book_place_specimen, _, f_Book_place_kind, _, f_Book_kind_of_species, _, f_Book_group_of_species, _, f_Book_group_of_genus, _, f_tell_group_name, _, f_tell_kind_name, _, f_tell_status, _, f_tell_kind_member, _, f_Reader_init, _, f_Reader_is_done, _, f_Reader_take_number, _, f_Reader_take_row, _, f_by_priority, _, f_priority_key, _, f_find_group_names, _, f_find_kind_members, _, f_Judge_init, _, f_Judge_find_status, _, f_Standing_init, _, f_answers, _, f_answer_telling, _, f_answer_question, _, f_answer_genus, _, f_answer_species, _, f_answer_tie, _, f_answer_rule, _, f_answer_kind, _, f_answer_group, _, f_answer_names, _, c_bp, P_bp⟩, ⟨⟨pg_Genus, hd_Genus, po_Genus, sa_Genus⟩,
    PySem.W.mg_of X G aC_Genus,
    ⟨mk_Genus, a_Genus_init, i_Genus_init, kc_Genus⟩,
    n_Genus_word,
    n_Genus_day,
    n_Genus_anchor,
    n_Genus_ruling,
    ⟨pg_Species, hd_Species, po_Species, sa_Species⟩,
    PySem.W.mg_of X G aC_Species,
    ⟨mk_Species, a_Species_init, i_Species_init, kc_Species⟩,
    n_Species_genus,
    n_Species_word,
    n_Species_day,
    n_Species_specimen,
    n_Species_ruling,
    ⟨pg_Book, hd_Book, po_Book, sa_Book⟩,
    PySem.W.mg_of X G aC_Book,
    ⟨mk_Book, a_Book_init, i_Book_init, kc_Book⟩,
    n_Book_genera,
    n_Book_species,
    n_Book_kinds,
    n_Book_groups,
    ⟨pg_Reader, hd_Reader, po_Reader, sa_Reader⟩,
    PySem.W.mg_of X G aC_Reader,
    ⟨mk_Reader, a_Reader_init, i_Reader_init, kc_Reader⟩,
    n_Reader_numbers,
    n_Reader_place,
    ⟨pg_Judge, hd_Judge, po_Judge, sa_Judge⟩,
    PySem.W.mg_of X G aC_Judge,
    ⟨mk_Judge, a_Judge_init, i_Judge_init, kc_Judge⟩,
    n_Judge_book,
    n_Judge_births_taken,
    n_Judge_group_words_taken,
    n_Judge_words_found,
    ⟨pg_Standing, hd_Standing, po_Standing, sa_Standing⟩,
    PySem.W.mg_of X G aC_Standing,
    ⟨mk_Standing, a_Standing_init, i_Standing_init, kc_Standing⟩,
    n_Standing_group_names,
    n_Standing_kind_members,
    n_Standing_statuses,
    n_Standing_kind_words,
    ⟨F_is_genus_word, b_is_genus_word, PySem.W.mg_of X G a_is_genus_word⟩,
    ⟨F_is_species_word, b_is_species_word, PySem.W.mg_of X G a_is_species_word⟩,
    ⟨F_has_word_length, b_has_word_length, PySem.W.mg_of X G a_has_word_length⟩,
    ⟨F_is_great, b_is_great, PySem.W.mg_of X G a_is_great⟩,
    ⟨F_is_small, b_is_small, PySem.W.mg_of X G a_is_small⟩,
    ⟨F_are_small, b_are_small, PySem.W.mg_of X G a_are_small⟩,
    ⟨F_Genus_init, b_Genus_init, ⟨a_Genus_init, i_Genus_init, k_Genus_init⟩⟩,
    ⟨F_Species_init, b_Species_init, ⟨a_Species_init, i_Species_init, k_Species_init⟩⟩,
    ⟨F_Book_init, b_Book_init, ⟨a_Book_init, i_Book_init, k_Book_init⟩⟩,
    ⟨F_Book_begin, b_Book_begin, ⟨a_Book_begin, i_Book_begin, k_Book_begin⟩⟩,
    ⟨F_Book_add_genus, b_Book_add_genus, ⟨a_Book_add_genus, i_Book_add_genus, k_Book_add_genus⟩⟩,
    ⟨F_Book_add_species, b_Book_add_species, ⟨a_Book_add_species, i_Book_add_species, k_Book_add_species⟩⟩,
    ⟨F_Book_tie_genus, b_Book_tie_genus, ⟨a_Book_tie_genus, i_Book_tie_genus, k_Book_tie_genus⟩⟩,
    ⟨F_Book_birth_word, b_Book_birth_word, ⟨a_Book_birth_word, i_Book_birth_word, k_Book_birth_word⟩⟩,
    ⟨F_Book_rule_name, b_Book_rule_name, ⟨a_Book_rule_name, i_Book_rule_name, k_Book_rule_name⟩⟩,
    ⟨F_Book_place_specimen, b_Book_place_specimen, ⟨a_Book_place_specimen, i_Book_place_specimen, k_Book_place_specimen⟩⟩,
    ⟨F_Book_place_kind, b_Book_place_kind, ⟨a_Book_place_kind, i_Book_place_kind, k_Book_place_kind⟩⟩,
    ⟨F_Book_kind_of_species, b_Book_kind_of_species, ⟨a_Book_kind_of_species, i_Book_kind_of_species, k_Book_kind_of_species⟩⟩,
    ⟨F_Book_group_of_species, b_Book_group_of_species, ⟨a_Book_group_of_species, i_Book_group_of_species, k_Book_group_of_species⟩⟩,
    ⟨F_Book_group_of_genus, b_Book_group_of_genus, ⟨a_Book_group_of_genus, i_Book_group_of_genus, k_Book_group_of_genus⟩⟩,
    ⟨F_tell_group_name, b_tell_group_name, PySem.W.mg_of X G a_tell_group_name⟩,
    ⟨F_tell_kind_name, b_tell_kind_name, PySem.W.mg_of X G a_tell_kind_name⟩,
    ⟨F_tell_status, b_tell_status, PySem.W.mg_of X G a_tell_status⟩,
    ⟨F_tell_kind_member, b_tell_kind_member, PySem.W.mg_of X G a_tell_kind_member⟩,
    ⟨F_Reader_init, b_Reader_init, ⟨a_Reader_init, i_Reader_init, k_Reader_init⟩⟩,
    ⟨F_Reader_is_done, b_Reader_is_done, ⟨a_Reader_is_done, i_Reader_is_done, k_Reader_is_done⟩⟩,
    ⟨F_Reader_take_number, b_Reader_take_number, ⟨a_Reader_take_number, i_Reader_take_number, k_Reader_take_number⟩⟩,
    ⟨F_Reader_take_row, b_Reader_take_row, ⟨a_Reader_take_row, i_Reader_take_row, k_Reader_take_row⟩⟩,
    ⟨F_by_priority, b_by_priority, PySem.W.mg_of X G a_by_priority⟩,
    ⟨F_priority_key, b_priority_key, PySem.W.mg_of X G a_priority_key⟩,
    ⟨F_find_group_names, b_find_group_names, PySem.W.mg_of X G a_find_group_names⟩,
    ⟨F_find_kind_members, b_find_kind_members, PySem.W.mg_of X G a_find_kind_members⟩,
    ⟨F_Judge_init, b_Judge_init, ⟨a_Judge_init, i_Judge_init, k_Judge_init⟩⟩,
    ⟨F_Judge_find_status, b_Judge_find_status, ⟨a_Judge_find_status, i_Judge_find_status, k_Judge_find_status⟩⟩,
    ⟨F_Standing_init, b_Standing_init, ⟨a_Standing_init, i_Standing_init, k_Standing_init⟩⟩,
    ⟨F_answers, b_answers, PySem.W.mg_of X G a_answers⟩,
    ⟨F_answer_telling, b_answer_telling, PySem.W.mg_of X G a_answer_telling⟩,
    ⟨F_answer_question, b_answer_question, PySem.W.mg_of X G a_answer_question⟩,
    ⟨F_answer_genus, b_answer_genus, PySem.W.mg_of X G a_answer_genus⟩,
    ⟨F_answer_species, b_answer_species, PySem.W.mg_of X G a_answer_species⟩,
    ⟨F_answer_tie, b_answer_tie, PySem.W.mg_of X G a_answer_tie⟩,
    ⟨F_answer_rule, b_answer_rule, PySem.W.mg_of X G a_answer_rule⟩,
    ⟨F_answer_kind, b_answer_kind, PySem.W.mg_of X G a_answer_kind⟩,
    ⟨F_answer_group, b_answer_group, PySem.W.mg_of X G a_answer_group⟩,
    ⟨F_answer_names, b_answer_names, PySem.W.mg_of X G a_answer_names⟩,
    ⟨_, PySem.W.mg_of X G q_FOREIGN⟩,
    ⟨_, PySem.W.mg_of X G q_MISSING⟩,
    ⟨_, PySem.W.mg_of X G q_TAKEN⟩,
    ⟨_, PySem.W.mg_of X G q_WRONG⟩,
    ⟨_, PySem.W.mg_of X G q_FULL⟩,
    ⟨_, PySem.W.mg_of X G q_SHORTEST⟩,
    ⟨_, PySem.W.mg_of X G q_LONGEST⟩,
    ⟨_, PySem.W.mg_of X G q_MOST_GENERA⟩,
    ⟨_, PySem.W.mg_of X G q_MOST_SPECIES⟩,
    ⟨_, PySem.W.mg_of X G q_LAST_DAY⟩,
    ⟨_, PySem.W.mg_of X G q_SPECIMENS⟩,
    ⟨_, PySem.W.mg_of X G q_NO_KIND⟩,
    ⟨_, PySem.W.mg_of X G q_NO_GROUP⟩,
    ⟨_, PySem.W.mg_of X G q_GENUS_RANK⟩,
    ⟨_, PySem.W.mg_of X G q_SPECIES_RANK⟩,
    ⟨_, PySem.W.mg_of X G q_NOTHING_RULED⟩,
    ⟨_, PySem.W.mg_of X G q_REJECTED⟩,
    ⟨_, PySem.W.mg_of X G q_CONSERVED⟩,
    ⟨_, PySem.W.mg_of X G q_NOTHING_THERE⟩,
    ⟨_, PySem.W.mg_of X G q_FOUND⟩,
    ⟨_, PySem.W.mg_of X G q_KINDS_WORD⟩,
    ⟨_, PySem.W.mg_of X G q_OTHER_IS_WORD⟩,
    ⟨_, PySem.W.mg_of X G q_HOMONYM_FROM_BIRTH⟩,
    ⟨_, PySem.W.mg_of X G q_HOMONYM_IN_GROUP⟩,
    ⟨_, PySem.W.mg_of X G q_IS_REJECTED⟩,
    ⟨_, PySem.W.mg_of X G q_NOWHERE⟩,
    ⟨_, PySem.W.mg_of X G q_BEGIN⟩,
    ⟨_, PySem.W.mg_of X G q_GENUS⟩,
    ⟨_, PySem.W.mg_of X G q_SPECIES⟩,
    ⟨_, PySem.W.mg_of X G q_TIE⟩,
    ⟨_, PySem.W.mg_of X G q_RULE⟩,
    ⟨_, PySem.W.mg_of X G q_KIND⟩,
    ⟨_, PySem.W.mg_of X G q_GROUP⟩,
    ⟨_, PySem.W.mg_of X G q_GENUS_OF⟩,
    ⟨_, PySem.W.mg_of X G q_NAME⟩,
    ⟨_, PySem.W.mg_of X G q_STATUS⟩,
    ⟨_, PySem.W.mg_of X G q_NAMES⟩,
    PySem.W.mg_none_of X G b_all,
    PySem.W.mg_none_of X G b_len,
    PySem.W.mg_none_of X G b_list,
    PySem.W.mg_none_of X G b_range,
    PySem.W.mg_none_of X G b_sorted,
    PySem.W.mg_none_of X G b_tuple,
    e_cd,
    ⟨_, vs_bp, file_bp, tf_bp, flags_bp, tg_bp, inF_bp, text_bp, tt_bp, lc_bp, rfl, rfl, v11_bp, g11_bp, g18_bp, g7_bp, g9_bp, g10_bp, ne_bp⟩,
    no_bp,
    tb_bp⟩⟩
end Ns
end
section
set_option Elab.async false
set_option linter.all false
set_option maxRecDepth 100000
set_option maxHeartbeats 2000000
namespace Ns
open PySem PySem.Spec PyProof.Rows L2
open PySem.W (Codec)
theorem collect_range {prog : Program} {w : World} {A : Around} {E : Value → Shared → Prop} {s : Shared} {r : Addr} {n : Nat} {t u v : Tok} {Q : List Value → Shared → Prop} (hh : A.handled = none) (hr : IsRange s.heap r 0 (n : Int) 1 t u v) (hn : n ≤ 2 ^ 24)
    (h : ∀ (h' : Heap) (tk : Nat) (vs : List Value), (∀ b o, s.heap.get? b = some o → h'.get? b = some o) → Vals (natsV (List.range n)) vs → Q vs { s with heap := h', toks := tk }) : wpAny (model prog w) A (collect (.ref r)) Q E s := by
  unfold collect
  refine wpAny_bind (wpAny_runValue (codeAny_builtin PySem.F.entry_proto_collect ?_))
  rw [Around.under_plainId PySem.F.plain_proto_collect _]
  show wpAny _ A.in1 (newList [] >>= fun l => again (.builtin "list.__iadd__" ⟨[l, .ref r], []⟩)) _ _ s
  refine wpAny_bind (wpAny_newObj_type ?_)
  refine wpAny_pure ⟨plainId_quiet PySem.F.plain_list_iadd _, codeAny_builtin PySem.F.entry_list_iadd ?_⟩
  rw [Around.under_plainId PySem.F.plain_list_iadd _]
  show wpAny _ A.in1 (Builtin.List.listExtendWith (.ref s.heap.objs.size) (.ref r) (.ref s.heap.objs.size)) _ _ _
  have hrl : r < s.heap.objs.size := Heap.lt_size hr
  refine wpAny_extend_range (A := A) (prog := prog) (w := w) (R := fun r s' => match r with
    | .ok (.ret v) => wpAny (model prog w) A (match v with
      | .ref a => (do
        let o ← load a
        match o.data with
          | .seq xs _ => pure xs.toList
          | _ => unsupported "internal:collect")
      | _ => unsupported "internal:collect") Q E s'
    | .ok _ => False
    | .error e => E e s') (s := { s with heap := s.heap.push { cls := .type "list", data := .seq ([] : List Value).toArray } }) hh (Heap.get?_push_of_some _ hr) (small_one (by omega) (by omega) (by omega) (by omega)) (by rw [rangeSize_one]; split <;> omega) hn s.heap.objs.size _ 0 (Heap.get?_push_size _ rfl) fun h' tk acc c hk hS hacc => ?_
  show wpAny _ A (load s.heap.objs.size >>= _) _ _ _
  refine wpAny_bind (wpAny_load hS ?_)
  refine wpAny_pure (h h' tk acc.toList (fun b o e => hk b o (Nat.ne_of_lt (Heap.lt_size e)) (Heap.get?_push_of_some _ e)) ?_)
  have len : acc.toList.length = n := by rw [Array.length_toList]; exact hacc.1
  have gen : ∀ (l : List Value) (k : Nat), (∀ (j : Nat) (v : Value), l[j]? = some v → ∃ t, v = Value.int (((k + j : Nat)) : Int) t) → Vals (natsV (List.range' k l.length)) l := by
    intro l
    induction l with
    | nil => intro k _; exact .nil
    | cons v r ih =>
      intro k hl
      obtain ⟨t, e⟩ := hl 0 v rfl
      refine .cons ⟨t, by rw [e]; rfl⟩ (ih (k + 1) fun j w' hj => ?_)
      obtain ⟨t', e'⟩ := hl (j + 1) w' (by simpa using hj)
      exact ⟨t', by rw [e', show k + 1 + j = k + (j + 1) by omega]⟩
  have g := gen acc.toList 0 fun j v hj => by
    obtain ⟨t, e⟩ := hacc.2 j v (by simpa using hj)
    exact ⟨t, by rw [e]; congr 1; omega⟩
  rw [len, ← List.range_eq_range'] at g
  exact g
section
variable {X : Cx} {pins : List (Addr × Obj)} {σ : L2.St} {H : Hp} {s : Shared}
def tRange1 (ta : TA) : TE := fun σ H Q => ta σ H fun vs H1 => ∃ n : Nat, vs = [.int (n : Int)] ∧ ∀ r, H1 r = none → Q (.ref r) (upd H1 r (.rng 0 (n : Int)))
theorem pe_range1 {a : Expr} {ta : TA} {p pos : Pos} (hg : Gl X "range") (hm : X.mg "range" = none) (ha : PA X [a] ta) (hs : starEach [a] X.env = [(false, eval a X.env)] := by rfl) : PE X (.Call (.Name "range" p) [a] [] pos) (tRange1 ta) := by
  intro pins s σ H R I h
  refine wpAny_Call_Name_kw (ld_blt I hg hm boot_range (PyProof.Rows.callWith_type1 (thn (ha pos pins s σ H _ I h) fun us s1 ⟨vs, H1, I1, r1, q1⟩ => ?_) hs rfl))
  obtain ⟨n, e, q⟩ := q1
  subst e
  cases r1 with
  | cons r rr =>
    cases rr
    obtain ⟨t, rfl⟩ := r
    refine call_range_1 ?_
    have hf : H1 s1.heap.objs.size = none := I1.hok.fresh (Nat.le_refl _)
    exact ⟨.ref s1.heap.objs.size, _, I1.laid (a := s1.heap.objs.size) (o := .rng 0 (n : Int)) (t' := s1.toks + 1 + 1) (fun b u e => Heap.get?_push_of_some _ e) (Nat.le_refl _) ⟨_, _, _, Heap.get?_push_size _ rfl⟩, rfl, q _ hf⟩
def KeyCalls (X : Cx) (σ : L2.St) (f : Addr) (H : Hp) (n : Nat) (kc kd : Nat → Int) : Prop := ∀ (pins : List (Addr × Obj)) (i : Nat), i < n → ∀ (t : Tok) (H1 : Hp) (s1 : Shared), Inv X pins σ H1 s1 → Same H H1 →
  wpAny (model X.prog X.w) X.A.in1.in1 (call (.ref f) [.int (i : Int) t]) (fun u s2 => ∃ k H2, u = .ref k ∧ Inv X pins σ H2 s2 ∧ Same H1 H2 ∧ H2 k = some (.tup [.int (kc i), .int (kd i), .int (i : Int)])) (fun _ _ => False) s1
def tSortK (X : Cx) (te tl : TE) : TE := fun σ H Q => te σ H fun x H1 => tl σ H1 fun y H2 => ∃ (r f : Addr) (n : Nat) (kc kd : Nat → Int), x = .ref r ∧ y = .ref f ∧ H2 r = some (.rng 0 (n : Int)) ∧ n ≤ 1000000 ∧ KeyCalls X σ f H2 n kc kd ∧
  ∀ (l : Addr) (H' : Hp) (out : List Nat), H2 l = none → Same H2 H' → H' l = some (.lst (natsV out)) → out.Perm (List.range n) → out.Pairwise (fun i j => ¬ lt3 kc kd j i) → Q (.ref l) H'
theorem call_sortK {E : Value → Shared → Prop} {r f : Addr} {n : Nat} {kc kd : Nat → Int} {Q : Value → Shared → Prop} (I : Inv X pins σ H s) (hc : X.calm = true) (hr : H r = some (.rng 0 (n : Int))) (hn : n ≤ 1000000) (hk : KeyCalls X σ f H n kc kd)
    (h : ∀ (s' : Shared) (H' : Hp) (l : Addr) (out : List Nat), Inv X pins σ H' s' → H l = none → Same H H' → H' l = some (.lst (natsV out)) → out.Perm (List.range n) → out.Pairwise (fun i j => ¬ lt3 kc kd j i) → Q (.ref l) s') :
    wpAny (model X.prog X.w) X.A (call (.builtin "sorted") [.ref r] [(Str.ofString "key", .ref f)]) Q E s := by
  obtain ⟨t, u, v, ho⟩ := (show ObjOk X.prog X.w H s.heap r (.rng 0 (n : Int)) from I.hok r _ hr)
  have hz : n ≤ sizeLine := Nat.le_trans hn (by decide)
  refine call_function_entry_kw kind_sorted plain_sorted entry_sorted (ksk_s1 _ _) ?_
  unfold Builtin.«sorted»
  refine wpAny_bind (m := checkCount "sorted" 1 1 _) (wpAny_pure ?_)
  refine wpAny_bind (collect_range (A := X.A.in1) (I.ok.hd hc) ho (by omega) fun h' tk vs hkp hv => ?_)
  have I1 : Inv X pins σ H { s with heap := h', toks := tk } := I.kept hkp
  have hvl : vs.length = n := by have := hv.length; unfold natsV at this; rw [List.length_map, List.length_range] at this; exact this.symm
  have hzv : vs.length ≤ sizeLine := by rw [hvl]; exact hz
  refine wpAny_bind (wpAny_newList ?_ hzv)
  have hf : H h'.objs.size = none := I1.hok.fresh (Nat.le_refl _)
  have I2 : Inv X pins σ (upd H h'.objs.size (.lst (natsV (List.range n)))) { s with heap := h'.push (seqObj "list" vs.toArray 0), toks := tk } :=
    I1.laid (a := h'.objs.size) (t' := tk) (fun b u e => Heap.get?_push_of_some _ e) (Nat.le_refl _) ⟨by unfold natsV; rw [List.length_map, List.length_range]; exact hz, vs, 0, hv, Heap.get?_push_size _ rfl⟩
  have hoL : (h'.push (seqObj "list" vs.toArray 0)).get? h'.objs.size = some (seqObj "list" vs.toArray 0) := Heap.get?_push_size _ rfl
  show wpAny _ X.A.in1 _ _ _ { s with heap := h'.push (seqObj "list" vs.toArray 0), toks := tk }
  have hne : ∀ b o, H b = some o → b ≠ h'.objs.size := fun b o e => ne_of_none e hf
  refine wpAny_bind (wpAny_holding (wpAny_call_entry_kw slot_list_sort ⟨_, hoL, rfl⟩ entry_list_sort ?body (ksk_l1 _ _)))
  case body =>
    show wpAny (model X.prog X.w) X.A.in1.in1 (Builtin.«list.sort» ⟨[.ref h'.objs.size], [(Str.ofString "key", .ref f)]⟩) _ _ _
    rw [ksk_t1]
    refine sortKey_ok (kc := kc) (kd := kd) (n := n) I2 upd_same hz (fun i hi t H1 s1 J kp => hk pins i hi t H1 s1 J fun b o e => kp b o (by rw [upd_ne (hne b o e)]; exact e) (hne b o e)) fun s' H' out J kp hl o1 o2 => ⟨_, rfl, ?_⟩
    exact wpAny_pure ⟨_, rfl, h s' H' h'.objs.size out J hf (fun b o e => kp b o (by rw [upd_ne (hne b o e)]; exact e) (hne b o e)) hl o1 o2⟩
end
section
variable {X : Cx} {pins : List (Addr × Obj)} {σ : L2.St} {H : Hp} {s : Shared}
def qSortK (X : Cx) (tl : TE) (σ : L2.St) (Q : VK) (vs : List V) (H1 : Hp) : Prop := match vs with
  | [x] => tl σ H1 fun y H2 => ∃ (r f : Addr) (n : Nat) (kc kd : Nat → Int), x = .ref r ∧ y = .ref f ∧ H2 r = some (.rng 0 (n : Int)) ∧ n ≤ 1000000 ∧ KeyCalls X σ f H2 n kc kd ∧
        ∀ (l : Addr) (H' : Hp) (out : List Nat), H2 l = none → Same H2 H' → H' l = some (.lst (natsV out)) → out.Perm (List.range n) → out.Pairwise (fun i j => ¬ lt3 kc kd j i) → Q (.ref l) H'
  | _ => False
theorem pe_sortK {e lam : Expr} {te tl : TE} {p pos kp : Pos} (hc : X.calm = true) (hg : Gl X "sorted") (hm : X.mg "sorted" = none) (hv : bootBuiltins "sorted" = some (.builtin "sorted")) (hl : PE X lam tl)
    (hpa : PA X [e] (tCons te tNil)) (hst : backTo pos (starEach [e] X.env) = (false, eval e X.env) :: backTo pos (starEach [] X.env) := by rfl) :
    PE X (.Call (.Name "sorted" p) [e] [⟨some "key", lam, kp⟩] pos) (tSortK X te tl) := by
  intro pins s σ H Q I h
  have h' : tCons te tNil σ H (qSortK X tl σ Q) := h
  refine wpAny_Call_Name_kw (ld_blt I hg hm hv ?_)
  have key : wpAny (model X.prog X.w) X.A (spliced (backTo pos (starEach [e] X.env))) (fun us s1 => wpAny (model X.prog X.w) X.A (evalAll ((backToKw pos (keywordEach [⟨some "key", lam, kp⟩] X.env)).map (·.2)))
      (fun kvs s2 => wpAny (model X.prog X.w) X.A (call (.builtin "sorted") us (((backToKw pos (keywordEach [⟨some "key", lam, kp⟩] X.env)).filterMap (·.1)).zip kvs)) (EP X pins σ Q) X.xe s2) X.xe s1) X.xe s := by
    refine thn (hpa pos pins s σ H _ I h') fun us s1 ⟨vs, H1, I1, r1, q1⟩ => ?_
    obtain ⟨x, hvs, q1⟩ : ∃ x, vs = [x] ∧ tl σ H1 fun y H2 => ∃ (r f : Addr) (n : Nat) (kc kd : Nat → Int), x = .ref r ∧ y = .ref f ∧ H2 r = some (.rng 0 (n : Int)) ∧ n ≤ 1000000 ∧ KeyCalls X σ f H2 n kc kd ∧
        ∀ (l : Addr) (H' : Hp) (out : List Nat), H2 l = none → Same H2 H' → H' l = some (.lst (natsV out)) → out.Perm (List.range n) → out.Pairwise (fun i j => ¬ lt3 kc kd j i) → Q (.ref l) H' := by
      cases vs with
      | nil => exact False.elim q1
      | cons x xs =>
        cases xs with
        | nil => exact ⟨x, rfl, q1⟩
        | cons _ _ => exact False.elim q1
    subst hvs
    obtain ⟨xu, hus, ra⟩ := vals1 r1
    subst hus
    refine PyProof.Rows.kws_cons (thn (hl pins s1 σ H1 _ I1 q1) fun u s2 ⟨y, H2, I2, r2, r, f, n, kc, kd, ex, ey, hr, hn, hk, q⟩ => PyProof.Rows.kws_nil ?_)
    subst ey ex
    obtain rfl : u = Value.ref f := r2
    obtain rfl : xu = Value.ref r := ra
    exact call_sortK I2 hc hr hn hk fun s' H' l out J hl sm hl2 o1 o2 => ⟨.ref l, H', J, rfl, q l H' out hl sm hl2 o1 o2⟩
  exact PyProof.Rows.callWith_kw key hst (by rw [hst]; rfl)
end
end Ns
end
section
set_option Elab.async false
set_option linter.all false
set_option maxRecDepth 100000
set_option maxHeartbeats 2000000
namespace Ns
open PySem PySem.Spec PyProof.Rows L2
open PySem.W (Codec)
section
variable {P : Program} {w : World} {K : PySem.W.Frag} {mg : Str → Option Value} {base : Heap} {t : Adr}
theorem fun_ok2 {x qual : Str} {st : Stmt} {f : Addr} {fd : FuncData} {N ps : List Str} {k : Nat} {sp : Sp} (F : Fun K x qual st f fd) (S : FnScope N ps (defScope st)) (len : ∀ vs H Q E, sp vs H Q E → vs.length = ps.length)
    (hbody : ∀ (A : Around) (outer : List Env) (s : Shared) (H : Hp) (vs : List V) (Q : VK) (E : XK), Room k (A.deeper (envOfC qual (defScope st) s.heap.objs.size f fd.code)) → sp vs H Q E →
      ∃ t, PSs (cxOf CX0 P w K mg base N qual (defScope st) f fd.code A outer s H E).nox (defBody st) t ∧ t { nx := fun _ H' => Q .non H', rt := Q } (start N vs) H) : FnOk P w K mg base CX0 (k + 1) f fd ps sp := by
  obtain ⟨oc, od, kV, doc, pm, an, cdv, ct, osl, rfl, lk, hcd⟩ := F.ex
  refine fn_of lk hcd S len fun A outer s H vs Q E hr hsp => ?_
  obtain ⟨t, h, q⟩ := hbody A outer s H vs Q E hr hsp
  exact ⟨t, h.nox, q⟩
def NamAt (K : PySem.W.Frag) (H : Hp) (p : Addr) (r d : Int) : Prop := ∃ C dx fs, H p = some (.ins C dx fs) ∧ Cls K C ∧ NoAttr K C "ruling" ∧ NoAttr K C "day" ∧ fs.lookup ("ruling" : Str) = some (.int r) ∧ fs.lookup ("day" : Str) = some (.int d)
def kcOf (r : Int) : Int := if r = 2 then 0 else 1
def sp_priority_key (K : PySem.W.Frag) : Sp := fun vs H Q _ => ∃ (p : Addr) (r d n : Int), vs = [.ref p, .int n] ∧ NamAt K H p r d ∧ ∀ k, H k = none → Q (.ref k) (upd H k (.tup [.int (kcOf r), .int d, .int n]))
theorem ok_priority_key (T : Txt K mg t) : FnOk P w K mg base CX0 1 t.f_priority_key t.d_priority_key ["name", "number"] (sp_priority_key K) := by
  refine T.h_priority_key.F.ok sc_priority_key (fun vs H Q E h => ?_) (fun cdv A outer s H vs Q E hr h => ?_)
  · obtain ⟨p, r, d, n, rfl, _⟩ := h
    rfl
  · obtain ⟨p, r, d, n, rfl, ⟨C, dx, fs, hp, hC, n1, n2, l1, l2⟩, k⟩ := h
    obtain ⟨k1, c1⟩ := T.c_CONSERVED
    refine ⟨_, pss_one (ps_ret (pe_tup (pa_cons (pe_ifExp (pt_cmpR op_eq (pe_fld (pv 0) rfl) (pe_glob rfl c1 (v := .int 2) ⟨k1, rfl⟩) (nomark _)) pe_int pe_int) (pa_cons (pe_fld (pv 0) rfl) (pa_cons (pv 1) pa_nil))))), ?_⟩
    refine ⟨_, rfl, p, C, dx, fs, _, rfl, hp, hC, n1, l1, rfl, _, rfl, ?_⟩
    unfold kcOf at k
    by_cases hr2 : r = 2
    · subst hr2
      rw [if_pos rfl] at k
      rw [decide_eq_true rfl]
      refine iteT ?_
      exact ⟨_, rfl, p, C, dx, fs, _, rfl, hp, hC, n2, l2, _, rfl, (by show 3 ≤ sizeLine; decide), fun q hq => k q hq⟩
    · rw [if_neg hr2] at k
      rw [decide_eq_false (fun z => hr2 (V.int.inj z))]
      refine iteF ?_
      exact ⟨_, rfl, p, C, dx, fs, _, rfl, hp, hC, n2, l2, _, rfl, (by show 3 ≤ sizeLine; decide), fun q hq => k q hq⟩
def lamPos : Pos := ⟨178, 41, 178, 91⟩
def lamNm : Str := ("by_priority" : Str) ++ ".<locals>." ++ "<lambda>"
abbrev Tab (t : Adr) (H : Hp) : Prop := TabOk t.P_bp lamNm lamPos H
def SameB (t : Adr) (H H' : Hp) : Prop := ∀ b o, H b = some o → b ≠ t.P_bp → H' b = some o
def sp_by_priority (t : Adr) (K : PySem.W.Frag) : Sp := fun vs H Q _ => ∃ (a : Addr) (ps : List Addr) (rs ds : Nat → Int), vs = [.ref a] ∧ H a = some (.lst (ps.map V.ref)) ∧ ps.length ≤ 1000000 ∧ Tab t H ∧
  (∀ (i : Nat) (p : Addr), ps[i]? = some p → NamAt K H p (rs i) (ds i)) ∧
  ∀ (l : Addr) (H' : Hp) (out : List Nat), H l = none → SameB t H H' → Tab t H' → H' l = some (.lst (natsV out)) → out.Perm (List.range ps.length) → out.Pairwise (fun i j => ¬ lt3 (fun i => kcOf (rs i)) ds j i) → Q (.ref l) H'
theorem Same.new0 {H : Hp} {D : Addr} {o : HO} (n : H D = none) : Same H (L2.upd H D o) := fun b u e => by
  rw [upd_ne (ne_of_none e n)]
  exact e
theorem NamAt.keep {H H' : Hp} {p : Addr} {r d : Int} (x : NamAt K H p r d) (k : ∀ C dx fs, H p = some (.ins C dx fs) → H' p = some (.ins C dx fs)) : NamAt K H' p r d := by
  obtain ⟨C, dx, fs, hp, q⟩ := x
  exact ⟨C, dx, fs, k _ _ _ hp, q⟩
theorem TabOk.keep {Pt : Addr} {q : Str} {pos : Pos} {H H' : Hp} (x : TabOk Pt q pos H) (s : ∀ b o, H b = some o → H' b = some o) : TabOk Pt q pos H' := by
  obtain ⟨ps, h1, h2⟩ := x
  refine ⟨ps, s _ _ h1, ?_⟩
  rcases h2 with h2 | ⟨c, h2, h3⟩
  · exact .inl h2
  · exact .inr ⟨c, h2, s _ _ h3⟩
theorem ok_by_priority (T : Txt K mg t) (hB : BaseB mg base) : FnOk P w K mg base CX0 8 t.f_by_priority t.d_by_priority ["names"] (sp_by_priority t K) := by
  refine fun_ok2 T.h_by_priority.F sc_by_priority (fun vs H Q E h => ?_) (fun A outer s0 H vs Q E hr h => ?_)
  · obtain ⟨a, ps, rs, ds, rfl, _⟩ := h
    rfl
  · obtain ⟨a, ps, rs, ds, rfl, ha, hl, hT, hn, k⟩ := h
    have C : ∀ h : Heap, K.In h → PySem.W.CodeHd h t.c_bp t.P_bp := fun h hk => by
      obtain ⟨o, vs, file, tf, flags, tg, inF, text, tt, e, r⟩ := T.hd_bp
      exact ⟨o, vs, file, tf, flags, tg, inF, text, tt, hk _ _ e, r⟩
    refine ⟨_, pss_one (ps_ret (pe_sortK rfl rfl T.b_sorted (by rfl) (pe_lam (c := t.c_bp) (P := t.P_bp) (clos := [("names", s0.heap.objs.size + 1)]) C hB T.cd_bp rfl rfl)
      (pa_cons (pe_range1 rfl T.b_range (pa_cons (pe_callB call_len_seq rfl T.b_len PySem.boot_len (pa_cons (pv 0) pa_nil)) pa_nil)) pa_nil))), ?_⟩
    have G1 := ok_priority_key (P := P) (w := w) (base := base) T
    refine ⟨_, rfl, a, _, rfl, .inl (SqL.of ha), ps.length, by rw [List.length_map], fun r hr0 => ?_⟩
    have sm0 := Same.new0 (o := .rng 0 (ps.length : Int)) hr0
    refine ⟨hT.keep sm0, fun f c H1 pm ctv hf hlam hcode hTab hkeep => ?_⟩
    have hrP : r ≠ t.P_bp := by
      obtain ⟨qs, hP, _⟩ := hT
      exact (ne_of_none hP hr0).symm
    have kp : ∀ b o, H b = some o → b ≠ t.P_bp → H1 b = some o := fun b o e hb => hkeep b o (sm0 b o e) hb
    have haP : a ≠ t.P_bp := by
      obtain ⟨qs, hP, _⟩ := hT
      exact ne_of ha hP (by intro z; cases z)
    refine ⟨r, f, ps.length, fun i => kcOf (rs i), ds, rfl, rfl, hkeep r _ upd_same hrP, hl, ?_, ?_⟩
    · intro pins i hi tk H2 s2 J sm
      have hp := List.getElem?_eq_getElem hi
      have hna : NamAt K H1 ps[i] (rs i) (ds i) := (hn i _ hp).keep fun C dx fs e => kp _ _ e (by
        obtain ⟨qs, hP, _⟩ := hT
        exact ne_of e hP (by intro z; cases z))
      have ha2 : H2 a = some (.lst (ps.map V.ref)) := sm _ _ (kp _ _ ha haP)
      have hpi : (ps.map V.ref)[i]? = some (.ref ps[i]) := by rw [List.getElem?_map, hp]; rfl
      refine thn (lam_call (k := 4) (na := a) (i := 0) (v := .int (i : Int)) (Q := fun v H3 => ∃ k, v = .ref k ∧ Same H2 H3 ∧ H3 k = some (.tup [.int (kcOf (rs i)), .int (ds i), .int (i : Int)])) J hr.in1.in1 J.ok.frames (sm _ _ hlam) (sm _ _ hcode) rfl rfl rfl rfl rfl rfl rfl (by decide +kernel) (y := "number") rfl rfl
        (fun z hz => by
          have h := PySem.mem_of_lookup hz
          rcases List.mem_cons.mp h with h | h
          · cases h
          rcases List.mem_cons.mp h with h | h
          · cases h; rfl
          rcases List.mem_cons.mp h with h | h
          · cases h
          · cases h) (by decide) rfl ⟨tk, rfl⟩
        (pe_call G1 (hr.in1.in1.deeper _ |>.mono (by decide)) rfl T.h_priority_key.m T.h_priority_key.F.kp T.h_priority_key.b .nil pass0 (pa_cons (pe_ix ix_list (pv 1) (pv 0) (fun _ _ => rfl)) (pa_cons (pv 0) pa_nil))) ?_)
        fun u s3 ⟨v, H3, J3, rv, q⟩ => ?_
      · refine ⟨_, rfl, _, rfl, a, _, _, _, rfl, rfl, SqL.of ha2, atI_nat hpi, _, rfl, ps[i], rs i, ds i, _, rfl, hna.keep (fun C dx fs e => sm _ _ e), fun k hk => ⟨k, rfl, Same.new0 hk, upd_same⟩⟩
      · obtain ⟨k', rfl, sm3, hk3⟩ := q
        obtain rfl : u = Value.ref k' := rv
        exact ⟨k', H3, rfl, J3, sm3, hk3⟩
    · intro l H' out hl' sm hl2 o1 o2
      have hHl : H l = none := by
        cases e : H l with
        | none => rfl
        | some o =>
          by_cases z : l = t.P_bp
          · obtain ⟨qs, hP, _⟩ := hTab
            rw [z, hP] at hl'; cases hl'
          · rw [kp l o e z] at hl'; cases hl'
      exact k l H' out hHl (fun b o e hb => sm b o (kp b o e hb)) (hTab.keep sm) hl2 o1 o2
end
end Ns
end
section
set_option Elab.async false
set_option linter.all false
set_option maxRecDepth 100000
set_option maxHeartbeats 2000000
namespace Ns
open PySem PySem.Spec PyProof.Rows L2
open PySem.W (Codec)
theorem Same.upd {H H' : Hp} {D : Addr} {o : HO} (s : Same H H') (n : H D = none) : Same H (L2.upd H' D o) := fun b u e => by
  rw [upd_ne (ne_of_none e n)]
  exact s b u e
theorem Same.new {H : Hp} {D : Addr} {o : HO} (n : H D = none) : Same H (L2.upd H D o) := Same.upd (Same.refl H) n
theorem Same.seqT {K : PySem.W.Frag} {H H' : Hp} {a : Addr} {xs : List V} (e : Same H H') (h : SqT K H a xs) : SqT K H' a xs := by
  rcases h with (h | ⟨o, h⟩) | h
  · exact .inl (.inl (e _ _ h))
  · exact .inl (.inr ⟨o, e _ _ h⟩)
  · exact .inr h
theorem lc_same {K : PySem.W.Frag} {a : Addr} {xs : List V} {j : Nat} {tt : TT} {te : TE} {σ : L2.St} {H : Hp} {Q : VK} {p : V → Bool} {f : V → V}
    (hS : SqT K H a xs) (hz : xs.length ≤ sizeLine)
    (ht : ∀ x ∈ xs, ∀ (H1 : Hp) (R : Bool → Hp → Prop), Same H H1 → (∀ H2, Same H1 H2 → R (p x) H2) → tt ((wipe σ [j]).set j (some x)) H1 R)
    (he : ∀ x ∈ xs, p x = true → ∀ (H1 : Hp) (R : VK), Same H H1 → (∀ H2, Same H1 H2 → R (f x) H2) → te ((wipe σ [j]).set j (some x)) H1 R)
    (hq : ∀ (D : Addr) (H1 : Hp), H D = none → Same H H1 → H1 D = some (.lst ((xs.filter p).map f)) → Q (.ref D) H1) :
    ∀ D, H D = none → ∃ W : Nat → Nat → Hp → Prop, (∃ m, W 0 m (upd H D (.lst []))) ∧ ∀ i m H, W i m H →
      ((Itt K a).stop i H ∧ Q (.ref D) H) ∨ ((Itt K a).go i H ∧ ∃ Nx : Hp → Prop, (∀ H', Nx H' → ∃ m', m' < m ∧ W (i + 1) m' H') ∧ ∀ x H', (Itt K a).yld i H x H' → gName j x (wipe σ [j]) H' fun σ2 H2 => wipe σ2 [j] = wipe σ [j] ∧ tt σ2 H2 fun b H3 =>
        if b = true then te σ2 H3 fun y H4 => ∃ acc, H4 D = some (.lst acc) ∧ acc.length < sizeLine ∧ Nx (upd H4 D (.lst (acc ++ [y]))) else Nx H3) := by
  intro D hD
  refine lc_tup (xs := xs) (fun i H1 => Same H H1 ∧ H1 D = some (.lst (((xs.take i).filter p).map f))) ⟨Same.new hD, upd_same⟩ (fun i H1 _ h => Same.seqT h.1 hS) ?_ ?_
  · rintro i x H1 hi ⟨s1, d1⟩
    have hm : x ∈ xs := List.mem_of_getElem? hi
    have hlt : i < xs.length := (List.getElem?_eq_some_iff.mp hi).1
    have etake : xs.take (i + 1) = xs.take i ++ [x] := by
      rw [List.take_add_one, hi]
      rfl
    have hw : wipe ((wipe σ [j]).set j (some x)) [j] = wipe σ [j] := by
      show ((σ.set j none).set j (some x)).set j none = σ.set j none
      rw [List.set_set, List.set_set]
    refine ⟨hw, ht x hm H1 _ s1 fun H2 s2 => ?_⟩
    cases hp : p x with
    | false =>
      rw [if_neg Bool.false_ne_true]
      refine ⟨s1.trans s2, ?_⟩
      rw [s2 _ _ d1, etake, List.filter_append, List.filter_cons, if_neg (by rw [hp]; exact Bool.false_ne_true), List.filter_nil, List.append_nil]
    | true =>
      rw [if_pos rfl]
      refine he x hm hp H2 _ (s1.trans s2) fun H3 s3 => ⟨_, s3 _ _ (s2 _ _ d1), ?_, ?_, ?_⟩
      · rw [List.length_map]
        have h1 := List.length_filter_le p (xs.take i)
        rw [List.length_take] at h1
        omega
      · exact Same.upd ((s1.trans s2).trans s3) hD
      · rw [upd_same, etake, List.filter_append, List.filter_cons, if_pos hp, List.filter_nil, List.map_append]
        rfl
  · rintro H1 ⟨s1, d1⟩
    rw [List.take_length] at d1
    exact hq D H1 hD s1 d1
theorem tlc_same {K : PySem.W.Frag} {tl : TE} {a : Addr} {xs : List V} {j : Nat} {tt : TT} {te : TE} {σ : L2.St} {H : Hp} {Q : VK} (p : V → Bool) (f : V → V)
    (htl : ∀ R : VK, R (.ref a) H → tl σ H R) (hS : SqT K H a xs) (hz : xs.length ≤ sizeLine)
    (ht : ∀ x ∈ xs, ∀ (H1 : Hp) (R : Bool → Hp → Prop), Same H H1 → (∀ H2, Same H1 H2 → R (p x) H2) → tt ((wipe σ [j]).set j (some x)) H1 R)
    (he : ∀ x ∈ xs, p x = true → ∀ (H1 : Hp) (R : VK), Same H H1 → (∀ H2, Same H1 H2 → R (f x) H2) → te ((wipe σ [j]).set j (some x)) H1 R)
    (hq : ∀ (D : Addr) (H1 : Hp), H D = none → Same H H1 → H1 D = some (.lst ((xs.filter p).map f)) → Q (.ref D) H1) :
    tLc (iTup K tl) (gName j) tt te [j] σ H Q := htl _ ⟨a, rfl, ⟨xs, hS⟩, lc_same hS hz ht he hq⟩
section
variable {P : Program} {w : World} {K : PySem.W.Frag} {mg : Str → Option Value} {base : Heap} {t : Adr}
def isSm (z : Int) : Bool := decide (97 ≤ z) && decide (z ≤ 122)
def isGr (z : Int) : Bool := decide (65 ≤ z) && decide (z ≤ 90)
def sp_is_small : Sp := fun vs H Q _ => ∃ z, vs = [.int z] ∧ Q (.bl (isSm z)) H
def sp_is_great : Sp := fun vs H Q _ => ∃ z, vs = [.int z] ∧ Q (.bl (isGr z)) H
theorem ok_is_small (T : Txt K mg t) : FnOk P w K mg base CX0 1 t.f_is_small t.d_is_small ["letter"] sp_is_small := by
  refine T.h_is_small.F.ok sc_is_small (fun vs H Q E h => ?_) (fun cdv A outer s H vs Q E hr h => ?_)
  · obtain ⟨z, rfl, _⟩ := h
    rfl
  · obtain ⟨z, rfl, k⟩ := h
    refine ⟨_, pss_one (ps_ret (pe_chain op_le op_le pe_int (pv 0) pe_int)), ?_⟩
    refine ⟨_, rfl, _, _, rfl, rfl, _, rfl, ?_⟩
    by_cases h1 : (97 : Int) ≤ z
    · rw [if_pos (decide_eq_true h1)]
      refine ⟨_, _, rfl, rfl, ?_⟩
      have e : isSm z = decide (z ≤ 122) := by unfold isSm; rw [decide_eq_true h1, Bool.true_and]
      rw [e] at k
      exact k
    · rw [if_neg (by rw [decide_eq_false h1]; exact Bool.false_ne_true)]
      have e : isSm z = false := by unfold isSm; rw [decide_eq_false h1, Bool.false_and]
      rw [e] at k
      exact k
theorem ok_is_great (T : Txt K mg t) : FnOk P w K mg base CX0 1 t.f_is_great t.d_is_great ["letter"] sp_is_great := by
  refine T.h_is_great.F.ok sc_is_great (fun vs H Q E h => ?_) (fun cdv A outer s H vs Q E hr h => ?_)
  · obtain ⟨z, rfl, _⟩ := h
    rfl
  · obtain ⟨z, rfl, k⟩ := h
    refine ⟨_, pss_one (ps_ret (pe_chain op_le op_le pe_int (pv 0) pe_int)), ?_⟩
    refine ⟨_, rfl, _, _, rfl, rfl, _, rfl, ?_⟩
    by_cases h1 : (65 : Int) ≤ z
    · rw [if_pos (decide_eq_true h1)]
      refine ⟨_, _, rfl, rfl, ?_⟩
      have e : isGr z = decide (z ≤ 90) := by unfold isGr; rw [decide_eq_true h1, Bool.true_and]
      rw [e] at k
      exact k
    · rw [if_neg (by rw [decide_eq_false h1]; exact Bool.false_ne_true)]
      have e : isGr z = false := by unfold isGr; rw [decide_eq_false h1, Bool.false_and]
      rw [e] at k
      exact k
def sp_are_small (K : PySem.W.Frag) : Sp := fun vs H Q _ => ∃ (a : Addr) (ns : List Int), vs = [.ref a] ∧ SqT K H a (ns.map V.int) ∧ ns.length ≤ sizeLine ∧ ∀ H1, Same H H1 → Q (.bl (ns.all isSm)) H1
theorem ok_are_small (T : Txt K mg t) : FnOk P w K mg base CX0 2 t.f_are_small t.d_are_small ["letters"] (sp_are_small K) := by
  have G1 := ok_is_small (P := P) (w := w) (base := base) T
  refine T.h_are_small.F.ok sc_are_small (fun vs H Q E h => ?_) (fun cdv A outer s H vs Q E hr h => ?_)
  · obtain ⟨a, ns, rfl, _⟩ := h
    rfl
  · obtain ⟨a, ns, rfl, hS, hz, k⟩ := h
    refine ⟨_, pss_one (ps_ret (pe_callB (cr_all rfl) rfl T.b_all (by rfl) (pa_cons
      (pe_lc (own := [("letter", 1)]) (g := gName 1) rfl sc_are_small.nd (pi_tup (pv 0)) (blkOk_by rfl) (fun _ _ _ _ _ => pg_name (i := 1) sc_are_small.nd rfl (Or.inl rfl)) (fun _ _ _ _ _ => pts_nil)
        (fun _ _ _ _ _ => pe_call G1 hr rfl T.h_is_small.m T.h_is_small.F.kp T.h_is_small.b .nil pass0 (pa_cons (pv 1) pa_nil))) pa_nil))), ?_⟩
    dsimp only [tRet, tCB, tCons]
    refine tlc_same (fun _ => true) (fun x => match x with | .int z => .bl (isSm z) | _ => .non) (fun R r => ⟨_, rfl, r⟩) hS (by rw [List.length_map]; exact hz) (fun x _ H1 R s1 r => r H1 (Same.refl _)) ?_ ?_
    · intro x hx _ H1 R s1 r
      obtain ⟨z, _, rfl⟩ := List.mem_map.mp hx
      exact ⟨_, rfl, z, rfl, r H1 (Same.refl _)⟩
    · intro D H1 hD s1 d1
      have e : (((ns.map V.int).filter fun _ => true).map fun x => match x with | .int z => V.bl (isSm z) | _ => .non) = (ns.map isSm).map V.bl := by
        rw [List.filter_eq_self.mpr (fun _ _ => rfl), List.map_map, List.map_map]
        rfl
      rw [e] at d1
      refine ⟨D, ns.map isSm, rfl, SqL.of d1, ?_⟩
      have e2 : (ns.map isSm).all id = ns.all isSm := by rw [List.all_map]; rfl
      rw [e2]
      exact k H1 s1
end
end Ns
end
section
set_option Elab.async false
set_option linter.all false
set_option maxRecDepth 100000
set_option maxHeartbeats 2000000
namespace Ns
open PySem PySem.Spec PyProof.Rows L2
open PySem.W (Codec)
section
variable {P : Program} {w : World} {K : PySem.W.Frag} {mg : Str → Option Value} {base : Heap} {t : Adr}
def wlZ (ns : List Int) : Bool := decide (2 ≤ ns.length) && decide (ns.length ≤ 24)
def isWordZ (ns : List Int) : Bool := wlZ ns && ns.all isSm
def isGreatZ (ns : List Int) : Bool := wlZ ns && (match ns with | c :: r => isGr c && r.all isSm | [] => false)
def sp_has_word_length (K : PySem.W.Frag) : Sp := fun vs H Q _ => ∃ (a : Addr) (ns : List Int), vs = [.ref a] ∧ SqT K H a (ns.map V.int) ∧ Q (.bl (wlZ ns)) H
theorem ok_has_word_length (T : Txt K mg t) : FnOk P w K mg base CX0 1 t.f_has_word_length t.d_has_word_length ["word"] (sp_has_word_length K) := by
  refine T.h_has_word_length.F.ok sc_has_word_length (fun vs H Q E h => ?_) (fun cdv A outer s H vs Q E hr h => ?_)
  · obtain ⟨a, ns, rfl, _⟩ := h
    rfl
  · obtain ⟨a, ns, rfl, hS, k⟩ := h
    obtain ⟨k1, c1⟩ := T.c_SHORTEST
    obtain ⟨k2, c2⟩ := T.c_LONGEST
    refine ⟨_, pss_one (ps_ret (pe_chain op_le op_le (pe_glob rfl c1 (v := .int 2) ⟨k1, rfl⟩) (pe_callB call_len_seq rfl T.b_len PySem.boot_len (pa_cons (pv 0) pa_nil)) (pe_glob rfl c2 (v := .int 24) ⟨k2, rfl⟩))), ?_⟩
    refine ⟨_, rfl, a, _, rfl, .inr hS, _, _, rfl, rfl, _, rfl, ?_⟩
    rw [List.length_map]
    have e1 : decide ((2 : Int) ≤ (ns.length : Int)) = decide (2 ≤ ns.length) := by
      by_cases h : 2 ≤ ns.length
      · rw [decide_eq_true h]; exact decide_eq_true (by omega)
      · rw [decide_eq_false h]; exact decide_eq_false (by omega)
    have e2 : decide ((ns.length : Int) ≤ (24 : Int)) = decide (ns.length ≤ 24) := by
      by_cases h : ns.length ≤ 24
      · rw [decide_eq_true h]; exact decide_eq_true (by omega)
      · rw [decide_eq_false h]; exact decide_eq_false (by omega)
    unfold wlZ at k
    rw [e1]
    by_cases h1 : 2 ≤ ns.length
    · rw [if_pos (decide_eq_true h1)]
      refine ⟨_, _, rfl, rfl, ?_⟩
      rw [decide_eq_true h1, Bool.true_and] at k
      show Q (.bl (decide ((ns.length : Int) ≤ (24 : Int)))) H
      rw [e2]
      exact k
    · rw [if_neg (by rw [decide_eq_false h1]; exact Bool.false_ne_true)]
      rw [decide_eq_false h1, Bool.false_and] at k
      exact k
def sp_is_species_word (K : PySem.W.Frag) : Sp := fun vs H Q _ => ∃ (a : Addr) (ns : List Int), vs = [.ref a] ∧ SqT K H a (ns.map V.int) ∧ ns.length ≤ sizeLine ∧ ∀ H1, Same H H1 → Q (.bl (isWordZ ns)) H1
theorem ok_is_species_word (T : Txt K mg t) : FnOk P w K mg base CX0 3 t.f_is_species_word t.d_is_species_word ["word"] (sp_is_species_word K) := by
  have G1 := ok_has_word_length (P := P) (w := w) (base := base) T
  have G2 := ok_are_small (P := P) (w := w) (base := base) T
  refine T.h_is_species_word.F.ok sc_is_species_word (fun vs H Q E h => ?_) (fun cdv A outer s H vs Q E hr h => ?_)
  · obtain ⟨a, ns, rfl, _⟩ := h
    rfl
  · obtain ⟨a, ns, rfl, hS, hz, k⟩ := h
    refine ⟨_, pss_one (ps_ret (pe_and (pe_call G1 (hr.mono (by decide)) rfl T.h_has_word_length.m T.h_has_word_length.F.kp T.h_has_word_length.b .nil pass0 (pa_cons (pv 0) pa_nil))
      (pe_one (pe_call G2 (hr.mono (by decide)) rfl T.h_are_small.m T.h_are_small.F.kp T.h_are_small.b .nil pass0 (pa_cons (pv 0) pa_nil))))), ?_⟩
    refine ⟨_, rfl, a, ns, rfl, hS, _, rfl, ?_⟩
    unfold isWordZ at k
    cases e : wlZ ns with
    | true =>
      rw [if_pos rfl]
      rw [e, Bool.true_and] at k
      exact ⟨_, rfl, a, ns, rfl, hS, hz, k⟩
    | false =>
      rw [if_neg Bool.false_ne_true]
      rw [e, Bool.false_and] at k
      exact k H (Same.refl H)
def sp_is_genus_word (K : PySem.W.Frag) : Sp := fun vs H Q _ => ∃ (a : Addr) (ns : List Int), vs = [.ref a] ∧ SqT K H a (ns.map V.int) ∧ ns.length ≤ sizeLine ∧ ∀ H1, Same H H1 → Q (.bl (isGreatZ ns)) H1
theorem cut1 (x : V) (xs : List V) : cutV (x :: xs) (some 1) none = xs := by
  unfold cutV
  rw [HT.sIx_none, show HT.sIx (x :: xs).length 0 (some 1) = 1 from (HT.sIx_nat _ 0 1).trans (by rw [List.length_cons]; omega)]
  show List.take (xs.length + 1 - 1) xs = xs
  rw [Nat.add_sub_cancel, List.take_length]
theorem ok_is_genus_word (T : Txt K mg t) : FnOk P w K mg base CX0 3 t.f_is_genus_word t.d_is_genus_word ["word"] (sp_is_genus_word K) := by
  have G1 := ok_has_word_length (P := P) (w := w) (base := base) T
  have G2 := ok_are_small (P := P) (w := w) (base := base) T
  have G3 := ok_is_great (P := P) (w := w) (base := base) T
  refine T.h_is_genus_word.F.ok sc_is_genus_word (fun vs H Q E h => ?_) (fun cdv A outer s H vs Q E hr h => ?_)
  · obtain ⟨a, ns, rfl, _⟩ := h
    rfl
  · obtain ⟨a, ns, rfl, hS, hz, k⟩ := h
    refine ⟨_, pss_one (ps_ret (pe_and (pe_call G1 (hr.mono (by decide)) rfl T.h_has_word_length.m T.h_has_word_length.F.kp T.h_has_word_length.b .nil pass0 (pa_cons (pv 0) pa_nil))
      (pe_and (pe_call G3 (hr.mono (by decide)) rfl T.h_is_great.m T.h_is_great.F.kp T.h_is_great.b .nil pass0 (pa_cons (pe_ix ix_tup (pv 0) pe_int (fun _ _ => rfl)) pa_nil))
      (pe_one (pe_call G2 (hr.mono (by decide)) rfl T.h_are_small.m T.h_are_small.F.kp T.h_are_small.b .nil pass0 (pa_cons (pe_slice sl_tup (pv 0) (po_some pe_int) po_none) pa_nil)))))), ?_⟩
    refine ⟨_, rfl, a, ns, rfl, hS, _, rfl, ?_⟩
    unfold isGreatZ at k
    cases e : wlZ ns with
    | false =>
      rw [if_neg Bool.false_ne_true]
      rw [e, Bool.false_and] at k
      exact k H (Same.refl H)
    | true =>
      rw [if_pos rfl]
      rw [e, Bool.true_and] at k
      match ns, hS, hz, k, e with
      | [], _, _, _, e => exact absurd e (by decide)
      | c :: r, hS, hz, k, _ =>
        refine ⟨_, rfl, a, _, _, _, rfl, rfl, hS, atI_nat (j := 0) rfl, c, rfl, _, rfl, ?_⟩
        have k : ∀ H1, Same H H1 → Q (.bl (isGr c && r.all isSm)) H1 := k
        cases e2 : isGr c with
        | false =>
          rw [if_neg Bool.false_ne_true]
          rw [e2, Bool.false_and] at k
          exact k H (Same.refl H)
        | true =>
          rw [if_pos rfl]
          rw [e2, Bool.true_and] at k
          refine ⟨_, rfl, _, rfl, a, _, rfl, hS, ?_, fun p hp => ⟨p, r, rfl, ?_, ?_, fun H1 s1 => k H1 ((Same.new hp).trans s1)⟩⟩
          · rintro ⟨z, _⟩
            rw [show HT.sIx ((c :: r).map V.int).length 0 (some 1) = min 1 ((c :: r).map V.int).length from HT.sIx_nat _ 0 1, List.length_map, List.length_cons] at z
            omega
          · refine SqT.of (upd_same.trans ?_)
            rw [List.map_cons, cut1]
          · rw [List.length_cons] at hz
            omega
end
end Ns
end
section
set_option Elab.async false
set_option linter.all false
set_option maxRecDepth 100000
set_option maxHeartbeats 2000000
namespace Ns
open PySem PySem.Spec PyProof.Rows L2
open PySem.W (Codec)
def rdF (a : Addr) (i : Nat) : List (Str × V) := [("numbers", .ref a), ("place", .int (i : Int))]
theorem rdF_put (a : Addr) (i j : Nat) : putF "place" (.int (j : Int)) (rdF a i) = rdF a j := by
  show (if ("numbers" : Str) = "place" then _ else (("numbers" : Str), V.ref a) :: (if ("place" : Str) = "place" then (("place" : Str), V.int (j : Int)) :: [] else _)) = rdF a j
  rw [if_neg (by decide), if_pos rfl]
  rfl
theorem rdF_num (a : Addr) (i : Nat) : (rdF a i).lookup ("numbers" : Str) = some (.ref a) := rfl
theorem rdF_place (a : Addr) (i : Nat) : (rdF a i).lookup ("place" : Str) = some (.int (i : Int)) := rfl
theorem cut_nat {ns : List Int} {i n : Nat} (h : i + n ≤ ns.length) : cutV (ns.map V.int) (some (i : Int)) (some ((i : Int) + (n : Int))) = ((ns.drop i).take n).map V.int := by
  unfold cutV
  rw [show ((i : Int) + (n : Int)) = ((i + n : Nat) : Int) from rfl, HT.sIx_nat, HT.sIx_nat, List.length_map, List.map_take, List.map_drop]
  rw [Nat.min_eq_left (by omega), Nat.min_eq_left (by omega), Nat.add_sub_cancel_left]
section
variable {P : Program} {w : World} {K : PySem.W.Frag} {mg : Str → Option Value} {base : Heap} {t : Adr}
def sp_Reader_init (C : Addr) : Sp := fun vs H Q _ => ∃ (r dx a : Addr), vs = [.ref r, .ref a] ∧ H r = some (.ins C dx []) ∧ Q .non (upd H r (.ins C dx (rdF a 0)))
theorem ok_Reader_init (T : Txt K mg t) : FnOk P w K mg base CX0 1 t.f_Reader_init t.d_Reader_init ["self", "numbers"] (sp_Reader_init t.C_Reader) := by
  refine T.h_Reader_init.F.ok sc_Reader_init (fun vs H Q E h => ?_) (fun cdv A outer s H vs Q E hr h => ?_)
  · obtain ⟨r, dx, a, rfl, _⟩ := h
    rfl
  · obtain ⟨r, dx, a, rfl, h1, k⟩ := h
    refine ⟨_, pss_cons (ps_fld (pv 0) (pv 1) rfl) (pss_one (ps_fld (pv 0) pe_int rfl)), ?_⟩
    refine ⟨_, rfl, _, rfl, r, t.C_Reader, dx, [], rfl, h1, T.cl_Reader, T.n_Reader_numbers, (by decide), ?_⟩
    refine ⟨_, rfl, r, t.C_Reader, dx, _, rfl, upd_same, T.cl_Reader, T.n_Reader_place, (by show 1 < 1000; decide), ?_⟩
    show Q .non (upd (upd H r _) r _)
    rw [upd_upd]
    exact k
def sp_Reader_is_done (K : PySem.W.Frag) (C : Addr) : Sp := fun vs H Q _ => ∃ (r dx a : Addr) (ns : List Int) (i : Nat), vs = [.ref r] ∧ H r = some (.ins C dx (rdF a i)) ∧ SqL K H a (ns.map V.int) ∧ Q (.bl (decide (ns.length ≤ i))) H
theorem ok_Reader_is_done (T : Txt K mg t) : FnOk P w K mg base CX0 1 t.f_Reader_is_done t.d_Reader_is_done ["self"] (sp_Reader_is_done K t.C_Reader) := by
  refine T.h_Reader_is_done.F.ok sc_Reader_is_done (fun vs H Q E h => ?_) (fun cdv A outer s H vs Q E hr h => ?_)
  · obtain ⟨r, dx, a, ns, i, rfl, _⟩ := h
    rfl
  · obtain ⟨r, dx, a, ns, i, rfl, h1, hS, k⟩ := h
    refine ⟨_, pss_one (ps_ret (pe_cmpR op_ge (pe_fld (pv 0) rfl) (pe_callB call_len_seq rfl T.b_len PySem.boot_len (pa_cons (pe_fld (pv 0) rfl) pa_nil)) (nobehind _ (by decide) (by decide)))), ?_⟩
    refine ⟨_, rfl, r, _, dx, _, _, rfl, h1, T.cl_Reader, T.n_Reader_place, rdF_place a i, _, rfl, r, _, dx, _, _, rfl, h1, T.cl_Reader, T.n_Reader_numbers, rdF_num a i, a, _, rfl, .inl hS, _, _, rfl, rfl, ?_⟩
    show Q (.bl (decide ((((ns.map V.int).length : Nat) : Int) ≤ (i : Int)))) H
    have e : decide ((((ns.map V.int).length : Nat) : Int) ≤ (i : Int)) = decide (ns.length ≤ i) := by
      rw [List.length_map]
      by_cases h : ns.length ≤ i
      · rw [decide_eq_true h]; exact decide_eq_true (by omega)
      · rw [decide_eq_false h]; exact decide_eq_false (by omega)
    rw [e]
    exact k
def sp_Reader_take_number (K : PySem.W.Frag) (C : Addr) : Sp := fun vs H Q _ => ∃ (r dx a : Addr) (ns : List Int) (i : Nat) (z : Int), vs = [.ref r] ∧ H r = some (.ins C dx (rdF a i)) ∧ SqL K H a (ns.map V.int) ∧ ns[i]? = some z ∧ Q (.int z) (upd H r (.ins C dx (rdF a (i + 1))))
theorem map_at {ns : List Int} {i : Nat} {z : Int} (h : ns[i]? = some z) : (ns.map V.int)[i]? = some (.int z) := by
  rw [List.getElem?_map, h]
  rfl
theorem ok_Reader_take_number (T : Txt K mg t) : FnOk P w K mg base CX0 1 t.f_Reader_take_number t.d_Reader_take_number ["self"] (sp_Reader_take_number K t.C_Reader) := by
  refine T.h_Reader_take_number.F.ok sc_Reader_take_number (fun vs H Q E h => ?_) (fun cdv A outer s H vs Q E hr h => ?_)
  · obtain ⟨r, dx, a, ns, i, z, rfl, _⟩ := h
    rfl
  · obtain ⟨r, dx, a, ns, i, z, rfl, h1, hS, hz, k⟩ := h
    refine ⟨_, pss_cons (ps_set (i := 1) sc_Reader_take_number.nd rfl (Or.inl rfl) (pe_ix ix_list (pe_fld (pv 0) rfl) (pe_fld (pv 0) rfl) (fun _ _ => rfl)))
      (pss_cons (ps_fld (pv 0) (pe_op op_add (pe_fld (pv 0) rfl) pe_int) rfl) (pss_one (ps_ret (pv 1)))), ?_⟩
    refine ⟨_, rfl, r, _, dx, _, _, rfl, h1, T.cl_Reader, T.n_Reader_numbers, rdF_num a i, _, rfl, r, _, dx, _, _, rfl, h1, T.cl_Reader, T.n_Reader_place, rdF_place a i, a, _, _, _, rfl, rfl, hS, atI_nat (map_at hz), ?_⟩
    refine ⟨_, rfl, r, _, dx, _, _, rfl, h1, T.cl_Reader, T.n_Reader_place, rdF_place a i, _, _, rfl, rfl, _, rfl, r, _, dx, _, rfl, h1, T.cl_Reader, T.n_Reader_place, (by show 2 < 1000; decide), ?_⟩
    refine ⟨_, rfl, ?_⟩
    show Q (.int z) (upd H r (.ins t.C_Reader dx (putF "place" (.int ((i + 1 : Nat) : Int)) (rdF a i))))
    rw [rdF_put]
    exact k
def sp_Reader_take_row (K : PySem.W.Frag) (C : Addr) : Sp := fun vs H Q _ => ∃ (r dx a : Addr) (ns : List Int) (i n : Nat), vs = [.ref r] ∧ H r = some (.ins C dx (rdF a i)) ∧ SqL K H a (ns.map V.int) ∧ ns[i]? = some (n : Int) ∧ i + 1 + n ≤ ns.length ∧
  ∀ (p : Addr) (H1 : Hp), H p = none → H1 p = some (.tup (((ns.drop (i + 1)).take n).map V.int)) → H1 r = some (.ins C dx (rdF a (i + 1 + n))) → (∀ b o, H b = some o → b ≠ r → H1 b = some o) → Q (.ref p) H1
theorem sql_stay {H H1 : Hp} {a r : Addr} {xs : List V} (h : SqL K H a xs) (k : ∀ b o, H b = some o → b ≠ r → H1 b = some o) (ne : ∀ xs, H r ≠ some (.lst xs)) (nf : ∀ o u, H r ≠ some (.frz o u)) : SqL K H1 a xs := by
  rcases h with (h | ⟨o, h⟩) | h
  · exact .inl (.inl (k _ _ h fun e => ne xs (by rw [← e]; exact h)))
  · exact .inl (.inr ⟨o, k _ _ h fun e => nf o _ (by rw [← e]; exact h)⟩)
  · exact .inr h
theorem sql_ins {H : Hp} {a r C dx : Addr} {fs gs : List (Str × V)} {xs : List V} (h : SqL K H a xs) (hr : H r = some (.ins C dx fs)) : SqL K (upd H r (.ins C dx gs)) a xs :=
  sql_stay h (r := r) (fun b o e ne => by rw [upd_ne ne]; exact e) (fun xs e => by rw [hr] at e; cases e) (fun o u e => by rw [hr] at e; cases e)
theorem ok_Reader_take_row (T : Txt K mg t) : FnOk P w K mg base CX0 2 t.f_Reader_take_row t.d_Reader_take_row ["self"] (sp_Reader_take_row K t.C_Reader) := by
  have G1 := ok_Reader_take_number (P := P) (w := w) (base := base) T
  refine T.h_Reader_take_row.F.ok sc_Reader_take_row (fun vs H Q E h => ?_) (fun cdv A outer s H vs Q E hr h => ?_)
  · obtain ⟨r, dx, a, ns, i, n, rfl, _⟩ := h
    rfl
  · obtain ⟨r, dx, a, ns, i, n, rfl, h1, hS, hz, hl, k⟩ := h
    refine ⟨_, pss_cons (ps_set (i := 1) sc_Reader_take_row.nd rfl (Or.inl rfl) (pe_meth0 (pv 0) T.cl_Reader T.h_Reader_take_number.m G1 hr T.h_Reader_take_number.b .nil pass0))
      (pss_cons (ps_set (i := 2) sc_Reader_take_row.nd rfl (Or.inl rfl) (pe_callTy call_tuple_of rfl T.b_tuple (by rfl) (pa_cons (pe_slice sl_list (pe_fld (pv 0) rfl) (po_some (pe_fld (pv 0) rfl)) (po_some (pe_op op_add (pe_fld (pv 0) rfl) (pv 1)))) pa_nil)))
      (pss_cons (ps_fld (pv 0) (pe_op op_add (pe_fld (pv 0) rfl) (pv 1)) rfl) (pss_one (ps_ret (pv 2))))), ?_⟩
    refine ⟨_, rfl, r, dx, _, rfl, h1, rfl, r, dx, a, ns, i, _, rfl, h1, hS, hz, ?_⟩
    have hS1 : SqL K (upd H r (.ins t.C_Reader dx (rdF a (i + 1)))) a (ns.map V.int) := sql_ins hS h1
    refine ⟨_, rfl, r, _, dx, _, _, rfl, upd_same, T.cl_Reader, T.n_Reader_numbers, rdF_num a _, ⟨_, rfl, r, _, dx, _, _, rfl, upd_same, T.cl_Reader, T.n_Reader_place, rdF_place a _, _, rfl,
      ⟨_, rfl, r, _, dx, _, _, rfl, upd_same, T.cl_Reader, T.n_Reader_place, rdF_place a _, _, rfl, _, _, rfl, rfl, _, rfl, a, _, rfl, hS1, fun p1 hp1 => ?_⟩⟩⟩
    have hpr1 : r ≠ p1 := ne_of_none upd_same hp1
    have hpH1 : H p1 = none := by rw [upd_ne (Ne.symm hpr1)] at hp1; exact hp1
    rw [cut_nat (by omega)]
    refine ⟨p1, _, rfl, .inl ⟨SqL.of upd_same, fun p hp => ?_⟩⟩
    have hpp : p1 ≠ p := ne_of_none upd_same hp
    have hp : upd H r (.ins t.C_Reader dx (rdF a (i + 1))) p = none := by rw [upd_ne (Ne.symm hpp)] at hp; exact hp
    have hpr : r ≠ p := ne_of_none upd_same hp
    have hpH : H p = none := by rw [upd_ne (Ne.symm hpr)] at hp; exact hp
    have hrr := (upd_ne (o := .tup (((ns.drop (i + 1)).take n).map V.int)) (H := upd (upd H r (.ins t.C_Reader dx (rdF a (i + 1)))) p1 (.lst (((ns.drop (i + 1)).take n).map V.int))) hpr).trans ((upd_ne hpr1).trans upd_same)
    refine ⟨_, rfl, r, _, dx, _, _, rfl, hrr, T.cl_Reader, T.n_Reader_place, rdF_place a _, _, rfl, _, _, rfl, rfl, _, rfl, r, _, dx, _, rfl, hrr, T.cl_Reader, T.n_Reader_place, (by show 2 < 1000; decide), ?_⟩
    refine ⟨_, rfl, ?_⟩
    refine k p _ hpH ((upd_ne (Ne.symm hpr)).trans upd_same) ?_ fun b o e ne => ?_
    · refine upd_same.trans ?_
      show some (HO.ins t.C_Reader dx (putF "place" (.int ((i + 1 + n : Nat) : Int)) (rdF a (i + 1)))) = _
      rw [rdF_put]
    · rw [upd_ne ne, upd_ne (ne_of_none e hpH), upd_ne (ne_of_none e hpH1), upd_ne ne]
      exact e
end
end Ns
end
section
set_option Elab.async false
set_option linter.all false
set_option maxRecDepth 100000
set_option maxHeartbeats 2000000
namespace Ns
inductive Parsed (ns : List Int) (i : Nat) : List (List Int) → Nat → Prop
  | begin_ : ns[i]? = some 0 → Parsed ns i [[0]] (i + 1)
  | genus {d : Int} {n : Nat} : ns[i]? = some 1 → ns[i + 1]? = some d → ns[i + 2]? = some (n : Int) → i + 3 + n ≤ ns.length → Parsed ns i [[1, d], (ns.drop (i + 3)).take n] (i + 3 + n)
  | species {g d ty : Int} {n : Nat} : ns[i]? = some 2 → ns[i + 1]? = some g → ns[i + 2]? = some d → ns[i + 3]? = some ty → ns[i + 4]? = some (n : Int) → i + 5 + n ≤ ns.length →
      Parsed ns i [[2, g, d, ty], (ns.drop (i + 5)).take n] (i + 5 + n)
  | three {p a b : Int} : ns[i]? = some p → (p = 3 ∨ p = 5 ∨ p = 6 ∨ p = 10) → ns[i + 1]? = some a → ns[i + 2]? = some b → Parsed ns i [[p, a, b]] (i + 3)
  | rule_ {a b c : Int} : ns[i]? = some 4 → ns[i + 1]? = some a → ns[i + 2]? = some b → ns[i + 3]? = some c → Parsed ns i [[4, a, b, c]] (i + 4)
  | two {p a : Int} : ns[i]? = some p → (p = 7 ∨ p = 8 ∨ p = 9) → ns[i + 1]? = some a → Parsed ns i [[p, a]] (i + 2)
theorem Parsed.lt {ns : List Int} {i j : Nat} {c : List (List Int)} (h : Parsed ns i c j) : i < j := by
  cases h <;> omega
theorem drop_cons {ns : List Int} {i : Nat} {p : Int} {r : List Int} (h : ns.drop i = p :: r) : ns[i]? = some p ∧ ns.drop (i + 1) = r ∧ i < ns.length := by
  have h1 : ns[i]? = some p := by
    have := List.getElem?_drop (xs := ns) (i := i) (j := 0)
    rw [h] at this
    simpa using this.symm
  refine ⟨h1, ?_, (List.getElem?_eq_some_iff.mp h1).1⟩
  rw [← List.drop_drop, h]
  rfl
theorem row_at {ns : List Int} {i : Nat} {x t : List Int} (h : PyFlat.row (ns.drop i) = some (x, t)) : ∃ n : Nat, ns[i]? = some (n : Int) ∧ i + 1 + n ≤ ns.length ∧ x = (ns.drop (i + 1)).take n ∧ t = ns.drop (i + 1 + n) := by
  cases e : ns.drop i with
  | nil =>
    rw [e] at h
    cases h
  | cons m r =>
    obtain ⟨h1, h2, h3⟩ := drop_cons e
    rw [e] at h
    unfold PyFlat.row at h
    dsimp only at h
    by_cases hc : 0 ≤ m ∧ m.toNat ≤ r.length
    · rw [if_pos hc] at h
      have q := Option.some.inj h
      have q1 : r.take m.toNat = x := congrArg Prod.fst q
      have q2 : r.drop m.toNat = t := congrArg Prod.snd q
      have hl : r.length = ns.length - (i + 1) := by rw [← h2, List.length_drop]
      refine ⟨m.toNat, ?_, by omega, ?_, ?_⟩
      · rw [h1]
        congr 1
        omega
      · rw [← q1, h2]
      · rw [← q2, ← h2, List.drop_drop]
    · rw [if_neg hc] at h
      cases h
theorem call_at {ns : List Int} {i : Nat} {c : List (List Int)} {t : List Int} (h : PyFlat.call PyKct4.shape (ns.drop i) = some (c, t)) : ∃ j, Parsed ns i c j ∧ t = ns.drop j := by
  cases e : ns.drop i with
  | nil =>
    rw [e] at h
    cases h
  | cons p r =>
    obtain ⟨h1, h2, h3⟩ := drop_cons e
    rw [e] at h
    unfold PyFlat.call at h
    dsimp only at h
    have get : ∀ k x, r[k]? = some x → ns[i + 1 + k]? = some x := fun k x q => by
      rw [← h2, List.getElem?_drop] at q
      exact q
    have drp : ∀ k, r.drop k = ns.drop (i + 1 + k) := fun k => by rw [← h2, List.drop_drop]
    by_cases p0 : p = 0
    · subst p0
      simp only [PyKct4.shape, PyFlat.rows, if_true, List.drop_zero, List.take_zero, Nat.not_lt_zero, if_false] at h
      have q := Option.some.inj h
      have q1 : [[(0 : Int)]] = c := congrArg Prod.fst q
      have q2 : r = t := congrArg Prod.snd q
      subst q1
      exact ⟨_, .begin_ h1, by rw [← q2, ← h2]⟩
    by_cases p1 : p = 1
    · subst p1
      have es : PyKct4.shape 1 = some (1, 1) := rfl
      rw [es] at h
      dsimp only at h
      by_cases hl : r.length < 1
      · rw [if_pos hl] at h
        cases h
      rw [if_neg hl] at h
      match r, h, get, drp, hl with
      | [], _, _, _, hl => exact absurd hl (by simp)
      | d :: r', h, get, drp, _ =>
        have g0 := get 0 d rfl
        cases er : PyFlat.row ((d :: r').drop 1) with
        | none =>
          unfold PyFlat.rows at h
          rw [er] at h
          cases h
        | some xt =>
          obtain ⟨x, t'⟩ := xt
          unfold PyFlat.rows at h
          rw [er] at h
          have q := Option.some.inj h
          have q1 : [[(1 : Int), d], x] = c := congrArg Prod.fst q
          have q2 : t' = t := congrArg Prod.snd q
          rw [drp 1] at er
          obtain ⟨n, a1, a2, a3, a4⟩ := row_at er
          subst q1
          rw [a3]
          exact ⟨_, .genus h1 g0 a1 a2, by rw [← q2, a4]⟩
    by_cases p2 : p = 2
    · subst p2
      have es : PyKct4.shape 2 = some (3, 1) := rfl
      rw [es] at h
      dsimp only at h
      by_cases hl : r.length < 3
      · rw [if_pos hl] at h
        cases h
      rw [if_neg hl] at h
      match r, h, get, drp, hl with
      | [], _, _, _, hl => exact absurd hl (by simp)
      | [_], _, _, _, hl => exact absurd hl (by simp)
      | [_, _], _, _, _, hl => exact absurd hl (by simp)
      | g :: d :: ty :: r', h, get, drp, _ =>
        cases er : PyFlat.row ((g :: d :: ty :: r').drop 3) with
        | none =>
          unfold PyFlat.rows at h
          rw [er] at h
          cases h
        | some xt =>
          obtain ⟨x, t'⟩ := xt
          unfold PyFlat.rows at h
          rw [er] at h
          have q := Option.some.inj h
          have q1 : [[(2 : Int), g, d, ty], x] = c := congrArg Prod.fst q
          have q2 : t' = t := congrArg Prod.snd q
          rw [drp 3] at er
          obtain ⟨n, a1, a2, a3, a4⟩ := row_at er
          subst q1
          rw [a3]
          exact ⟨_, .species h1 (get 0 g rfl) (get 1 d rfl) (get 2 ty rfl) a1 a2, by rw [← q2, a4]⟩
    by_cases p4 : p = 4
    · subst p4
      have es : PyKct4.shape 4 = some (3, 0) := rfl
      rw [es] at h
      dsimp only at h
      by_cases hl : r.length < 3
      · rw [if_pos hl] at h
        cases h
      rw [if_neg hl] at h
      match r, h, get, drp, hl with
      | [], _, _, _, hl => exact absurd hl (by simp)
      | [_], _, _, _, hl => exact absurd hl (by simp)
      | [_, _], _, _, _, hl => exact absurd hl (by simp)
      | a :: b :: d :: r', h, get, drp, _ =>
        have q := Option.some.inj h
        have q1 : [[(4 : Int), a, b, d]] = c := congrArg Prod.fst q
        have q2 : r' = t := congrArg Prod.snd q
        subst q1
        exact ⟨_, .rule_ h1 (get 0 a rfl) (get 1 b rfl) (get 2 d rfl), by rw [← q2]; exact drp 3⟩
    by_cases p3 : p = 3 ∨ p = 5 ∨ p = 6 ∨ p = 10
    · have es : PyKct4.shape p = some (2, 0) := by rcases p3 with rfl | rfl | rfl | rfl <;> rfl
      rw [es] at h
      dsimp only at h
      by_cases hl : r.length < 2
      · rw [if_pos hl] at h
        cases h
      rw [if_neg hl] at h
      match r, h, get, drp, hl with
      | [], _, _, _, hl => exact absurd hl (by simp)
      | [_], _, _, _, hl => exact absurd hl (by simp)
      | a :: b :: r', h, get, drp, _ =>
        have q := Option.some.inj h
        have q1 : [[p, a, b]] = c := congrArg Prod.fst q
        have q2 : r' = t := congrArg Prod.snd q
        subst q1
        exact ⟨_, .three h1 p3 (get 0 a rfl) (get 1 b rfl), by rw [← q2]; exact drp 2⟩
    by_cases p7 : p = 7 ∨ p = 8 ∨ p = 9
    · have es : PyKct4.shape p = some (1, 0) := by rcases p7 with rfl | rfl | rfl <;> rfl
      rw [es] at h
      dsimp only at h
      by_cases hl : r.length < 1
      · rw [if_pos hl] at h
        cases h
      rw [if_neg hl] at h
      match r, h, get, drp, hl with
      | [], _, _, _, hl => exact absurd hl (by simp)
      | a :: r', h, get, drp, _ =>
        have q := Option.some.inj h
        have q1 : [[p, a]] = c := congrArg Prod.fst q
        have q2 : r' = t := congrArg Prod.snd q
        subst q1
        exact ⟨_, .two h1 p7 (get 0 a rfl), by rw [← q2]; exact drp 1⟩
    have es : PyKct4.shape p = none := by
      unfold PyKct4.shape
      simp only [not_or] at p3 p7
      rw [if_neg p0, if_neg p1, if_neg p2, if_neg p3.1, if_neg p4, if_neg p3.2.1, if_neg p3.2.2.1, if_neg p7.1, if_neg p7.2.1, if_neg p7.2.2, if_neg p3.2.2.2]
    rw [es] at h
    cases h
theorem Parsed.whole {ns : List Int} {i j : Nat} {c : List (List Int)} (h : Parsed ns i c j) : PyKct4.whole c = c := by
  cases h with
  | begin_ => rfl
  | genus => rfl
  | species => rfl
  | three _ hp => rcases hp with rfl | rfl | rfl | rfl <;> rfl
  | rule_ => rfl
  | two _ hp => rcases hp with rfl | rfl | rfl <;> rfl
def Rest (ns : List Int) (i : Nat) (cs : List (List (List Int))) : Prop := ∃ f cs0, PyFlat.calls PyKct4.shape f (ns.drop i) = some cs0 ∧ cs = cs0.map PyKct4.whole
theorem Rest.next {ns : List Int} {i : Nat} {cs : List (List (List Int))} (h : Rest ns i cs) (hi : i < ns.length) : ∃ c cs' j, cs = c :: cs' ∧ Parsed ns i c j ∧ Rest ns j cs' := by
  obtain ⟨f, cs0, h1, h2⟩ := h
  cases e : ns.drop i with
  | nil =>
    have := congrArg List.length e
    rw [List.length_drop] at this
    simp at this
    omega
  | cons p r =>
    cases f with
    | zero =>
      rw [e] at h1
      cases h1
    | succ f =>
      rw [e] at h1
      unfold PyFlat.calls at h1
      cases e1 : PyFlat.call PyKct4.shape (p :: r) with
      | none =>
        rw [e1] at h1
        cases h1
      | some ct =>
        obtain ⟨c, t⟩ := ct
        rw [e1] at h1
        dsimp only at h1
        cases e2 : PyFlat.calls PyKct4.shape f t with
        | none =>
          rw [e2] at h1
          cases h1
        | some cs1 =>
          rw [e2] at h1
          have q : c :: cs1 = cs0 := Option.some.inj h1
          rw [← e] at e1
          obtain ⟨j, hp, ht⟩ := call_at e1
          rw [ht] at e2
          refine ⟨c, cs1.map PyKct4.whole, j, ?_, hp, f, cs1, e2, rfl⟩
          rw [h2, ← q, List.map_cons, hp.whole]
theorem Rest.done {ns : List Int} {i : Nat} {cs : List (List (List Int))} (h : Rest ns i cs) (hi : ns.length ≤ i) : cs = [] := by
  obtain ⟨f, cs0, h1, h2⟩ := h
  rw [List.drop_eq_nil_of_le hi] at h1
  have q : cs0 = [] := by
    cases f <;> exact (Option.some.inj h1).symm
  rw [h2, q]
  rfl
theorem Parsed.le {ns : List Int} {i j : Nat} {c : List (List Int)} (h : Parsed ns i c j) : j ≤ ns.length := by
  have get : ∀ {k : Nat} {x : Int}, ns[k]? = some x → k < ns.length := fun e => (List.getElem?_eq_some_iff.mp e).1
  cases h with
  | begin_ h => exact get h
  | genus _ _ _ h => exact h
  | species _ _ _ _ _ h => exact h
  | three _ _ _ h => exact get h
  | rule_ _ _ _ h => exact get h
  | two _ _ h => exact get h
end Ns
end
section
set_option Elab.async false
set_option linter.all false
set_option maxRecDepth 100000
set_option maxHeartbeats 2000000
namespace Ns
open Kct4
structure Wf (s : Abs) : Prop where
  gl : s.genera.length ≤ 256
  sl : s.species.length ≤ 1024
  kl : s.kindOf.length = 1024
  ol : s.groupOf.length = 256
  sg : ∀ x ∈ s.species, x.genus < s.genera.length
  st : ∀ x ∈ s.species, x.type_ < 1024
  gt : ∀ x ∈ s.genera, ∀ n, x.type_ = some n → n < s.species.length
  kk : ∀ k, some k ∈ s.kindOf → k < 256
  oo : ∀ g, some g ∈ s.groupOf → g < 64
  gw : ∀ x ∈ s.genera, isGreat x.word = true
  sw : ∀ x ∈ s.species, isWord x.word = true
  gd : ∀ x ∈ s.genera, x.day ≤ DAYS
  sd : ∀ x ∈ s.species, x.day ≤ DAYS
theorem Wf.first : Wf first := by
  refine ⟨by decide, by decide, List.length_replicate, List.length_replicate, ?_, ?_, ?_, ?_, ?_, ?_, ?_, ?_, ?_⟩
  · intro x h; cases h
  · intro x h; cases h
  · intro x h; cases h
  · intro k h; exact nomatch (List.eq_of_mem_replicate h)
  · intro k h; exact nomatch (List.eq_of_mem_replicate h)
  all_goals (intro x h; cases h)
theorem mem_set_or {α : Type} {l : List α} {i : Nat} {a x : α} (h : x ∈ l.set i a) : x ∈ l ∨ x = a := List.mem_or_eq_of_mem_set h
theorem Wf.step {s : Abs} (h : Wf s) (c : Call) : Wf (Kct4.step s c).1 := by
  cases c with
  | begin_ => exact Wf.first
  | genus w d =>
    show Wf (if isGreat w = false ∨ DAYS < d then (s, Ans.num (-22)) else if GENERA ≤ s.genera.length then (s, Ans.num (-28)) else ({ s with genera := s.genera ++ [⟨w, d, none, .no⟩] }, Ans.num s.genera.length)).1
    by_cases c1 : isGreat w = false ∨ DAYS < d
    · rw [if_pos c1]; exact h
    rw [if_neg c1]
    by_cases c2 : GENERA ≤ s.genera.length
    · rw [if_pos c2]; exact h
    rw [if_neg c2]
    simp only [not_or, Bool.not_eq_false, Nat.not_lt] at c1
    have c2' : s.genera.length < 256 := Nat.lt_of_not_le c2
    refine ⟨?_, h.sl, h.kl, h.ol, ?_, h.st, ?_, h.kk, h.oo, ?_, h.sw, ?_, h.sd⟩
    · show (s.genera ++ [_]).length ≤ 256
      rw [List.length_append]
      exact c2'
    · intro x hx
      show x.genus < (s.genera ++ [_]).length
      rw [List.length_append]
      have := h.sg x hx
      omega
    · intro x hx n e
      rcases List.mem_append.mp hx with m | m
      · exact h.gt x m n e
      · rw [List.mem_singleton.mp m] at e
        cases e
    · intro x hx
      rcases List.mem_append.mp hx with m | m
      · exact h.gw x m
      · rw [List.mem_singleton.mp m]; exact c1.1
    · intro x hx
      rcases List.mem_append.mp hx with m | m
      · exact h.gd x m
      · rw [List.mem_singleton.mp m]; exact c1.2
  | species g w d t =>
    show Wf (if isWord w = false ∨ DAYS < d ∨ SPECIMENS ≤ t then (s, Ans.num (-22)) else if s.genera.length ≤ g then (s, Ans.num (-2)) else if SPECIES ≤ s.species.length then (s, Ans.num (-28)) else ({ s with species := s.species ++ [⟨g, w, d, t, .no⟩] }, Ans.num s.species.length)).1
    by_cases c1 : isWord w = false ∨ DAYS < d ∨ SPECIMENS ≤ t
    · rw [if_pos c1]; exact h
    rw [if_neg c1]
    by_cases c2 : s.genera.length ≤ g
    · rw [if_pos c2]; exact h
    rw [if_neg c2]
    by_cases c3 : SPECIES ≤ s.species.length
    · rw [if_pos c3]; exact h
    rw [if_neg c3]
    simp only [not_or, Bool.not_eq_false, Nat.not_lt, Nat.not_le] at c1
    have c3' : s.species.length < 1024 := Nat.lt_of_not_le c3
    refine ⟨h.gl, ?_, h.kl, h.ol, ?_, ?_, ?_, h.kk, h.oo, h.gw, ?_, h.gd, ?_⟩
    · show (s.species ++ [_]).length ≤ 1024
      rw [List.length_append]
      exact c3'
    · intro x hx
      rcases List.mem_append.mp hx with m | m
      · exact h.sg x m
      · rw [List.mem_singleton.mp m]; exact Nat.lt_of_not_le c2
    · intro x hx
      rcases List.mem_append.mp hx with m | m
      · exact h.st x m
      · rw [List.mem_singleton.mp m]; exact c1.2.2
    · intro x hx n e
      show n < (s.species ++ [_]).length
      rw [List.length_append]
      have := h.gt x hx n e
      omega
    · intro x hx
      rcases List.mem_append.mp hx with m | m
      · exact h.sw x m
      · rw [List.mem_singleton.mp m]; exact c1.1
    · intro x hx
      rcases List.mem_append.mp hx with m | m
      · exact h.sd x m
      · rw [List.mem_singleton.mp m]; exact c1.2.1
  | type_ g n =>
    show Wf (match s.genera[g]?, s.species[n]? with
      | some x, some y => if x.type_.isSome then (s, Ans.num (-17)) else if genusWord s y.genus ≠ x.word then (s, Ans.num (-1)) else ({ s with genera := s.genera.set g { x with type_ := some n } }, Ans.num 0)
      | _, _ => (s, Ans.num (-2))).1
    cases e1 : s.genera[g]? with
    | none => exact h
    | some x =>
      cases e2 : s.species[n]? with
      | none => exact h
      | some y =>
        dsimp only
        by_cases c1 : x.type_.isSome = true
        · rw [if_pos c1]; exact h
        rw [if_neg c1]
        by_cases c2 : genusWord s y.genus ≠ x.word
        · rw [if_pos c2]; exact h
        rw [if_neg c2]
        have hx : x ∈ s.genera := List.mem_of_getElem? e1
        have hn : n < s.species.length := (List.getElem?_eq_some_iff.mp e2).1
        refine ⟨?_, h.sl, h.kl, h.ol, ?_, h.st, ?_, h.kk, h.oo, ?_, h.sw, ?_, h.sd⟩
        · show (s.genera.set g _).length ≤ 256
          rw [List.length_set]; exact h.gl
        · intro z hz
          show z.genus < (s.genera.set g _).length
          rw [List.length_set]; exact h.sg z hz
        · intro z hz k e
          rcases mem_set_or hz with m | m
          · exact h.gt z m k e
          · rw [m] at e
            have e' : n = k := Option.some.inj e
            rw [← e']; exact hn
        · intro z hz
          rcases mem_set_or hz with m | m
          · exact h.gw z m
          · rw [m]; exact h.gw x hx
        · intro z hz
          rcases mem_set_or hz with m | m
          · exact h.gd z m
          · rw [m]; exact h.gd x hx
  | rule_ rank n r =>
    show Wf (if 1 < rank ∨ 2 < r then (s, Ans.num (-22)) else if rank = 0 then (match s.genera[n]? with
      | none => (s, Ans.num (-2))
      | some x => ({ s with genera := s.genera.set n { x with ruled := ruledOf r } }, Ans.num 0))
      else match s.species[n]? with
      | none => (s, Ans.num (-2))
      | some x => ({ s with species := s.species.set n { x with ruled := ruledOf r } }, Ans.num 0)).1
    by_cases c1 : 1 < rank ∨ 2 < r
    · rw [if_pos c1]; exact h
    rw [if_neg c1]
    by_cases c2 : rank = 0
    · rw [if_pos c2]
      cases e1 : s.genera[n]? with
      | none => exact h
      | some x =>
        dsimp only
        have hx : x ∈ s.genera := List.mem_of_getElem? e1
        refine ⟨?_, h.sl, h.kl, h.ol, ?_, h.st, ?_, h.kk, h.oo, ?_, h.sw, ?_, h.sd⟩
        · show (s.genera.set n _).length ≤ 256
          rw [List.length_set]; exact h.gl
        · intro z hz
          show z.genus < (s.genera.set n _).length
          rw [List.length_set]; exact h.sg z hz
        · intro z hz k e
          rcases mem_set_or hz with m | m
          · exact h.gt z m k e
          · rw [m] at e; exact h.gt x hx k e
        · intro z hz
          rcases mem_set_or hz with m | m
          · exact h.gw z m
          · rw [m]; exact h.gw x hx
        · intro z hz
          rcases mem_set_or hz with m | m
          · exact h.gd z m
          · rw [m]; exact h.gd x hx
    · rw [if_neg c2]
      cases e1 : s.species[n]? with
      | none => exact h
      | some x =>
        dsimp only
        have hx : x ∈ s.species := List.mem_of_getElem? e1
        refine ⟨h.gl, ?_, h.kl, h.ol, ?_, ?_, ?_, h.kk, h.oo, h.gw, ?_, h.gd, ?_⟩
        · show (s.species.set n _).length ≤ 1024
          rw [List.length_set]; exact h.sl
        · intro z hz
          rcases mem_set_or hz with m | m
          · exact h.sg z m
          · rw [m]; exact h.sg x hx
        · intro z hz
          rcases mem_set_or hz with m | m
          · exact h.st z m
          · rw [m]; exact h.st x hx
        · intro z hz k e
          show k < (s.species.set n _).length
          rw [List.length_set]; exact h.gt z hz k e
        · intro z hz
          rcases mem_set_or hz with m | m
          · exact h.sw z m
          · rw [m]; exact h.sw x hx
        · intro z hz
          rcases mem_set_or hz with m | m
          · exact h.sd z m
          · rw [m]; exact h.sd x hx
  | kind t k =>
    show Wf (if SPECIMENS ≤ t ∨ KINDS < k then (s, Ans.num (-22)) else ({ s with kindOf := s.kindOf.set t (somewhere KINDS k) }, Ans.num 0)).1
    by_cases c1 : SPECIMENS ≤ t ∨ KINDS < k
    · rw [if_pos c1]; exact h
    rw [if_neg c1]
    refine ⟨h.gl, h.sl, ?_, h.ol, h.sg, h.st, h.gt, ?_, h.oo, h.gw, h.sw, h.gd, h.sd⟩
    · show (s.kindOf.set t _).length = 1024
      rw [List.length_set]; exact h.kl
    · intro z hz
      rcases mem_set_or hz with m | m
      · exact h.kk z m
      · unfold somewhere at m
        by_cases q : k < KINDS
        · rw [if_pos q] at m
          rw [Option.some.inj m]; exact q
        · rw [if_neg q] at m; cases m
  | group k g =>
    show Wf (if KINDS ≤ k ∨ GROUPS < g then (s, Ans.num (-22)) else ({ s with groupOf := s.groupOf.set k (somewhere GROUPS g) }, Ans.num 0)).1
    by_cases c1 : KINDS ≤ k ∨ GROUPS < g
    · rw [if_pos c1]; exact h
    rw [if_neg c1]
    refine ⟨h.gl, h.sl, h.kl, ?_, h.sg, h.st, h.gt, h.kk, ?_, h.gw, h.sw, h.gd, h.sd⟩
    · show (s.groupOf.set k _).length = 256
      rw [List.length_set]; exact h.ol
    · intro z hz
      rcases mem_set_or hz with m | m
      · exact h.oo z m
      · unfold somewhere at m
        by_cases q : g < GROUPS
        · rw [if_pos q] at m
          rw [Option.some.inj m]; exact q
        · rw [if_neg q] at m; cases m
  | genusName g =>
    show Wf (if GROUPS ≤ g then (s, Ans.num (-22)) else match genusName s g with
      | none => (s, Ans.num 0)
      | some n => (s, Ans.some_ [n])).1
    split
    · exact h
    · split <;> exact h
  | name k =>
    show Wf (if KINDS ≤ k then (s, Ans.num (-22)) else match nameOf s k with
      | none => (s, Ans.num 0)
      | some x => (s, .name x.1 x.2 (words s x).1 (words s x).2)).1
    split
    · exact h
    · split <;> exact h
  | status n =>
    show Wf (if s.species.length ≤ n then (s, Ans.num (-2)) else (s, .num (status s n))).1
    split <;> exact h
  | names k j =>
    show Wf (if KINDS ≤ k then (s, Ans.num (-22)) else match (namesIn s k)[j]? with
      | none => (s, Ans.num 0)
      | some n => (s, .some_ [n, status s n])).1
    split
    · exact h
    · split <;> exact h
end Ns
end
section
set_option Elab.async false
set_option linter.all false
set_option maxRecDepth 100000
set_option maxHeartbeats 2000000
namespace Ns
open Kct4
theorem foldl_add (l : List Nat) : ∀ n : Nat, l.foldl (fun (x y : Nat) => x + y) n = n + l.sum := by
  induction l with
  | nil => intro n; simp
  | cons a r ih =>
    intro n
    rw [List.foldl_cons, ih, List.sum_cons]
    omega
theorem told_len : ∀ l : List (List Int), (PyFlat.told l).length = (l.map List.length).sum + l.length
  | [] => rfl
  | a :: r => by
    have h := told_len r
    have e : PyFlat.told (a :: r) = ((a.length : Int) :: a) ++ PyFlat.told r := rfl
    rw [e, List.length_append, List.length_cons, h, List.map_cons, List.sum_cons, List.length_cons]
    omega
theorem played_eq : ∀ (s : Abs) (cs : List (List (List Int))), PyFlat.played Kct4Neutral.step s cs = Kct4Neutral.answersFrom s cs
  | _, [] => rfl
  | s, c :: r => by
    show (Kct4Neutral.step s c).2 :: PyFlat.played Kct4Neutral.step (Kct4Neutral.step s c).1 r = (Kct4Neutral.step s c).2 :: Kct4Neutral.answersFrom (Kct4Neutral.step s c).1 r
    rw [played_eq]
theorem from_len : ∀ (s : Abs) (cs : List (List (List Int))), (Kct4Neutral.answersFrom s cs).length = cs.length
  | _, [] => rfl
  | s, c :: r => by
    show (Kct4Neutral.answersFrom (Kct4Neutral.step s c).1 r).length + 1 = r.length + 1
    rw [from_len]
theorem asked_open {ns : List Int} (h : PyKct4.answers_asked ns = true) : ∃ cs, Rest ns 0 cs ∧ PyKct4.answers ns = PyFlat.told (PyFlat.played Kct4Neutral.step first cs) ∧ (∀ c ∈ cs, Kct4Neutral.asked1 c = true) ∧ (PyKct4.answers ns).length ≤ 1100000 := by
  unfold PyKct4.answers_asked at h
  cases e : PyKct4.calls ns with
  | none =>
    rw [e] at h
    cases h
  | some cs =>
    rw [e] at h
    dsimp only at h
    rw [Bool.and_eq_true] at h
    obtain ⟨h1, h2⟩ := h
    unfold Kct4Neutral.asked at h2
    rw [Bool.and_eq_true, Bool.and_eq_true, Bool.and_eq_true] at h2
    obtain ⟨⟨_, h3, _⟩, h5⟩ := h2
    have ea : PyKct4.answers ns = PyFlat.told (PyFlat.played Kct4Neutral.step first cs) := by
      unfold PyKct4.answers
      rw [e]
      rfl
    refine ⟨cs, ?_, ea, fun c hc => List.all_eq_true.mp h3 c hc, ?_⟩
    · unfold PyKct4.calls at e
      cases e2 : PyFlat.calls PyKct4.shape ns.length ns with
      | none =>
        rw [e2] at e
        cases e
      | some cs0 =>
        rw [e2] at e
        exact ⟨ns.length, cs0, e2, (Option.some.inj e).symm⟩
    · rw [ea, told_len, played_eq, from_len]
      unfold Kct4Neutral.few_ at h5
      have h6 := of_decide_eq_true h5
      rw [foldl_add] at h6
      have h7 : ((Kct4Neutral.answersFrom first cs).map List.length).sum = ((Kct4Neutral.answers cs).map List.length).sum := rfl
      have h8 : cs.length ≤ 2000 := of_decide_eq_true h1
      rw [h7]
      omega
theorem asked_nat {z : Int} {n : Nat} (h : Kct4Neutral.natural z n = true) : 0 ≤ z := by
  unfold Kct4Neutral.natural at h
  rw [Bool.and_eq_true] at h
  exact of_decide_eq_true h.1
end Ns
end
section
set_option Elab.async false
set_option linter.all false
set_option maxRecDepth 100000
set_option maxHeartbeats 2000000
namespace Ns
open Kct4
def pk (r : Ruled) : Nat := if r == .conserved then 0 else 1
theorem prior_iff (ra : Ruled) (da na : Nat) (rb : Ruled) (db nb : Nat) : prior ra da na rb db nb = true ↔ pk ra < pk rb ∨ (pk ra = pk rb ∧ (da < db ∨ (da = db ∧ na < nb))) := by
  unfold prior pk
  cases ea : (ra == Ruled.conserved) <;> cases eb : (rb == Ruled.conserved) <;> simp
theorem prior_irrefl (ra : Ruled) (da na : Nat) : prior ra da na ra da na = false := by
  cases h : prior ra da na ra da na with
  | false => rfl
  | true =>
    have := (prior_iff ..).mp h
    omega
theorem prior_trans {ra rb rc : Ruled} {da na db nb dc nc : Nat} (h1 : prior ra da na rb db nb = true) (h2 : prior rb db nb rc dc nc = true) : prior ra da na rc dc nc = true := by
  have h1 := (prior_iff ..).mp h1
  have h2 := (prior_iff ..).mp h2
  refine (prior_iff ..).mpr ?_
  omega
theorem prior_total (ra : Ruled) (da : Nat) {na : Nat} (rb : Ruled) (db : Nat) {nb : Nat} (h : na ≠ nb) : prior ra da na rb db nb = true ∨ prior rb db nb ra da na = true := by
  rw [prior_iff, prior_iff]
  omega
theorem gb_irrefl (s : Abs) (a : Nat) : genusBefore s a a = false := by
  unfold genusBefore
  cases s.genera[a]? with
  | none => rfl
  | some x => exact prior_irrefl _ _ _
theorem sb_irrefl (s : Abs) (a : Nat) : speciesBefore s a a = false := by
  unfold speciesBefore
  cases s.species[a]? with
  | none => rfl
  | some x => exact prior_irrefl _ _ _
theorem gb_trans {s : Abs} {a b c : Nat} (h1 : genusBefore s a b = true) (h2 : genusBefore s b c = true) : genusBefore s a c = true := by
  unfold genusBefore at *
  cases ea : s.genera[a]? <;> cases eb : s.genera[b]? <;> cases ec : s.genera[c]? <;> simp only [ea, eb, ec] at h1 h2 ⊢ <;> first | cases h1 | cases h2 | exact prior_trans h1 h2
theorem sb_trans {s : Abs} {a b c : Nat} (h1 : speciesBefore s a b = true) (h2 : speciesBefore s b c = true) : speciesBefore s a c = true := by
  unfold speciesBefore at *
  cases ea : s.species[a]? <;> cases eb : s.species[b]? <;> cases ec : s.species[c]? <;> simp only [ea, eb, ec] at h1 h2 ⊢ <;> first | cases h1 | cases h2 | exact prior_trans h1 h2
theorem gb_total {s : Abs} {a b : Nat} (ha : a < s.genera.length) (hb : b < s.genera.length) (h : a ≠ b) : genusBefore s a b = true ∨ genusBefore s b a = true := by
  unfold genusBefore
  rw [List.getElem?_eq_getElem ha, List.getElem?_eq_getElem hb]
  exact prior_total _ _ _ _ h
theorem sb_total {s : Abs} {a b : Nat} (ha : a < s.species.length) (hb : b < s.species.length) (h : a ≠ b) : speciesBefore s a b = true ∨ speciesBefore s b a = true := by
  unfold speciesBefore
  rw [List.getElem?_eq_getElem ha, List.getElem?_eq_getElem hb]
  exact prior_total _ _ _ _ h
theorem foremost_some {before : Nat → Nat → Bool} {l : List Nat} {a : Nat} (as : ∀ a b, before a b = true → before b a = false) (ha : a ∈ l) (h : ∀ b ∈ l, a = b ∨ before a b = true) : foremost before l = some a := by
  unfold foremost
  have ok : (l.all fun b => a == b || before a b) = true := List.all_eq_true.mpr fun b hb => by
    rcases h b hb with e | e
    · rw [e, beq_self_eq_true, Bool.true_or]
    · rw [e, Bool.or_true]
  cases e : l.find? (fun a => l.all fun b => a == b || before a b) with
  | none =>
    have := List.find?_eq_none.mp e a ha
    exact absurd ok this
  | some c =>
    have hc := List.find?_some e
    have hm := List.mem_of_find?_eq_some e
    have h1 := List.all_eq_true.mp hc a ha
    rw [Bool.or_eq_true] at h1
    rcases h1 with h1 | h1
    · rw [eq_of_beq h1]
    · rcases h c hm with h2 | h2
      · rw [h2]
      · rw [as _ _ h2] at h1
        cases h1
theorem foremost_mem {before : Nat → Nat → Bool} {l : List Nat} {a : Nat} (h : foremost before l = some a) : a ∈ l := List.mem_of_find?_eq_some h
theorem foremost_ex {before : Nat → Nat → Bool} (tr : ∀ a b c, before a b = true → before b c = true → before a c = true) : ∀ (l : List Nat), l ≠ [] → (∀ a ∈ l, ∀ b ∈ l, a ≠ b → before a b = true ∨ before b a = true) → ∃ a ∈ l, ∀ b ∈ l, a = b ∨ before a b = true
  | [], h, _ => absurd rfl h
  | [x], _, _ => ⟨x, List.mem_singleton_self x, fun b hb => .inl (List.mem_singleton.mp hb).symm⟩
  | x :: y :: r, _, tot => by
    obtain ⟨m, hm, hall⟩ := foremost_ex tr (y :: r) (by simp) fun a ha b hb => tot a (List.mem_cons_of_mem _ ha) b (List.mem_cons_of_mem _ hb)
    by_cases e : x = m
    · refine ⟨m, List.mem_cons_of_mem _ hm, fun b hb => ?_⟩
      rcases List.mem_cons.mp hb with z | z
      · exact .inl (e.symm.trans z.symm)
      · exact hall b z
    · rcases tot x List.mem_cons_self m (List.mem_cons_of_mem _ hm) e with h1 | h1
      · refine ⟨x, List.mem_cons_self, fun b hb => ?_⟩
        rcases List.mem_cons.mp hb with z | z
        · exact .inl z.symm
        · rcases hall b z with z2 | z2
          · rw [← z2]; exact .inr h1
          · exact .inr (tr _ _ _ h1 z2)
      · refine ⟨m, List.mem_cons_of_mem _ hm, fun b hb => ?_⟩
        rcases List.mem_cons.mp hb with z | z
        · rw [z]; exact .inr h1
        · exact hall b z
theorem sb_asymm {s : Abs} : ∀ a b, speciesBefore s a b = true → speciesBefore s b a = false := fun a b h => by
  cases e : speciesBefore s b a with
  | false => rfl
  | true => exact absurd ((sb_irrefl s a).symm.trans (sb_trans h e)) Bool.false_ne_true
theorem sorted_unique {le : Nat → Nat → Bool} (as : ∀ a b, le a b = true → le b a = true → a = b) : ∀ {l m : List Nat}, l.Perm m → l.Pairwise (fun a b => le a b = true) → m.Pairwise (fun a b => le a b = true) → (∀ a, le a a = true) → l = m
  | [], m, p, _, _, _ => (List.Perm.nil_eq p)
  | x :: l, [], p, _, _, _ => by
    have := p.length_eq
    simp at this
  | x :: l, y :: m, p, h1, h2, rf => by
    have e : x = y := by
      have hx : x ∈ y :: m := p.subset List.mem_cons_self
      have hy : y ∈ x :: l := p.symm.subset List.mem_cons_self
      have a1 : le x y = true := by
        rcases List.mem_cons.mp hy with z | z
        · rw [z]; exact rf x
        · exact (List.pairwise_cons.mp h1).1 y z
      have a2 : le y x = true := by
        rcases List.mem_cons.mp hx with z | z
        · rw [z]; exact rf y
        · exact (List.pairwise_cons.mp h2).1 x z
      exact as _ _ a1 a2
    subst e
    rw [sorted_unique as (List.Perm.cons_inv p) (List.pairwise_cons.mp h1).2 (List.pairwise_cons.mp h2).2 rf]
def leT (s : Abs) (a b : Nat) : Bool := if a < s.species.length then (if b < s.species.length then a == b || speciesBefore s a b else true) else (if b < s.species.length then false else decide (a ≤ b))
theorem leT_in {s : Abs} {a b : Nat} (ha : a < s.species.length) (hb : b < s.species.length) : leT s a b = (a == b || speciesBefore s a b) := by
  unfold leT
  rw [if_pos ha, if_pos hb]
theorem leT_total (s : Abs) (a b : Nat) : (leT s a b || leT s b a) = true := by
  unfold leT
  by_cases ha : a < s.species.length
  · by_cases hb : b < s.species.length
    · rw [if_pos ha, if_pos hb, if_pos hb, if_pos ha]
      by_cases e : a = b
      · rw [e, beq_self_eq_true, Bool.true_or, Bool.true_or]
      · rcases sb_total ha hb e with h | h
        · rw [h, Bool.or_true, Bool.true_or]
        · rw [h, Bool.or_true, Bool.or_true]
    · rw [if_pos ha, if_neg hb, Bool.true_or]
  · by_cases hb : b < s.species.length
    · rw [if_neg ha, if_pos hb, if_pos hb, if_neg ha, Bool.or_true]
    · rw [if_neg ha, if_neg hb, if_neg hb, if_neg ha, Bool.or_eq_true]
      rcases Nat.le_total a b with h | h
      · exact .inl (decide_eq_true h)
      · exact .inr (decide_eq_true h)
theorem leT_trans (s : Abs) (a b c : Nat) (h1 : leT s a b = true) (h2 : leT s b c = true) : leT s a c = true := by
  unfold leT at *
  by_cases ha : a < s.species.length <;> by_cases hb : b < s.species.length <;> by_cases hc : c < s.species.length <;> simp only [ha, hb, hc, if_true, if_false] at h1 h2 ⊢
  · rw [Bool.or_eq_true] at h1 h2 ⊢
    rcases h1 with h1 | h1
    · rw [eq_of_beq h1]; exact h2
    · rcases h2 with h2 | h2
      · rw [← eq_of_beq h2]; exact .inr h1
      · exact .inr (sb_trans h1 h2)
  all_goals first | exact Bool.noConfusion h1 | exact Bool.noConfusion h2 | exact decide_eq_true (Nat.le_trans (of_decide_eq_true h1) (of_decide_eq_true h2))
theorem namesIn_is {s : Abs} {k : Nat} {l : List Nat} (hp : l.Perm ((speciesNumbers s).filter fun n => kindIn s n == some k)) (ho : l.Pairwise fun a b => speciesBefore s a b = true) : namesIn s k = l := by
  have hl : ∀ a ∈ (speciesNumbers s).filter fun n => kindIn s n == some k, a < s.species.length := fun a ha => List.mem_range.mp (List.mem_filter.mp ha).1
  have e1 : namesIn s k = ((speciesNumbers s).filter fun n => kindIn s n == some k).mergeSort (leT s) := by
    unfold namesIn
    have := List.map_mergeSort (f := fun x : Nat => x) (r := fun a b => a == b || speciesBefore s a b) (s := leT s) (l := (speciesNumbers s).filter fun n => kindIn s n == some k) fun a ha b hb => (leT_in (hl a ha) (hl b hb)).symm
    rw [List.map_id', List.map_id'] at this
    exact this
  rw [e1]
  have hs := List.pairwise_mergeSort (le := leT s) (leT_trans s) (leT_total s) ((speciesNumbers s).filter fun n => kindIn s n == some k)
  have hm := List.mergeSort_perm ((speciesNumbers s).filter fun n => kindIn s n == some k) (leT s)
  refine (sorted_unique (le := fun a b => a == b || speciesBefore s a b) ?_ (hp.trans hm.symm) (ho.imp fun h => by rw [h, Bool.or_true]) ?_ fun a => by rw [beq_self_eq_true, Bool.true_or]).symm
  · intro a b h1 h2
    rw [Bool.or_eq_true] at h1 h2
    rcases h1 with h1 | h1
    · exact eq_of_beq h1
    · rcases h2 with h2 | h2
      · exact (eq_of_beq h2).symm
      · rw [sb_asymm _ _ h1] at h2; cases h2
  · refine List.Pairwise.imp_of_mem (fun {a b} ha hb h => ?_) hs
    rw [leT_in (hl a (hm.subset ha)) (hl b (hm.subset hb))] at h
    exact h
theorem namesIn_perm (s : Abs) (k : Nat) : (namesIn s k).Perm ((speciesNumbers s).filter fun n => kindIn s n == some k) := List.mergeSort_perm _ _
end Ns
end
section
set_option Elab.async false
set_option linter.all false
set_option maxRecDepth 100000
set_option maxHeartbeats 2000000
namespace Ns
open Kct4
structure Ord (before : Nat → Nat → Bool) (N : Nat) : Prop where
  irr : ∀ a, before a a = false
  tr : ∀ a b c, before a b = true → before b c = true → before a c = true
  tot : ∀ a b, a < N → b < N → a ≠ b → before a b = true ∨ before b a = true
theorem Ord.as {before : Nat → Nat → Bool} {N : Nat} (O : Ord before N) : ∀ a b, before a b = true → before b a = false := fun a b h => by
  cases e : before b a with
  | false => rfl
  | true => exact absurd ((O.irr a).symm.trans (O.tr _ _ _ h e)) Bool.false_ne_true
theorem ordG (s : Abs) : Ord (genusBefore s) s.genera.length := ⟨gb_irrefl s, fun _ _ _ => gb_trans, fun _ _ => gb_total⟩
theorem ordS (s : Abs) : Ord (speciesBefore s) s.species.length := ⟨sb_irrefl s, fun _ _ _ => sb_trans, fun _ _ => sb_total⟩
structure InOrd (before : Nat → Nat → Bool) (N : Nat) (od : List Nat) : Prop where
  perm : od.Perm (List.range N)
  pw : od.Pairwise fun i j => before i j = true
section
variable {before : Nat → Nat → Bool} {N : Nat} {od pre post : List Nat} {n : Nat}
theorem InOrd.lt (h : InOrd before N od) {k : Nat} (hk : k ∈ od) : k < N := List.mem_range.mp (h.perm.mem_iff.mp hk)
theorem InOrd.mem (h : InOrd before N od) {k : Nat} (hk : k < N) : k ∈ od := h.perm.mem_iff.mpr (List.mem_range.mpr hk)
theorem InOrd.len (h : InOrd before N od) : od.length = N := by rw [h.perm.length_eq, List.length_range]
theorem InOrd.of {kn : Nat → Nat → Prop} (O : Ord before N) (hp : od.Perm (List.range N)) (hw : od.Pairwise fun i j => ¬ kn j i) (hk : ∀ i j, i < N → j < N → before i j = true → kn i j) : InOrd before N od := by
  refine ⟨hp, ?_⟩
  have nd : od.Nodup := hp.nodup_iff.mpr List.nodup_range
  have h2 : od.Pairwise fun i j => ¬ kn j i ∧ i ≠ j := List.Pairwise.and hw nd
  refine List.Pairwise.imp_of_mem (fun {a b} ha hb h => ?_) h2
  have la := List.mem_range.mp (hp.mem_iff.mp ha)
  have lb := List.mem_range.mp (hp.mem_iff.mp hb)
  rcases O.tot a b la lb h.2 with z | z
  · exact z
  · exact absurd (hk b a lb la z) h.1
theorem InOrd.ahead (O : Ord before N) (h : InOrd before N (pre ++ n :: post)) {k : Nat} : k ∈ pre ↔ (k < N ∧ before k n = true) := by
  have hw := h.pw
  rw [List.pairwise_append] at hw
  obtain ⟨_, h2, h3⟩ := hw
  constructor
  · intro hk
    exact ⟨h.lt (List.mem_append_left _ hk), h3 k hk n List.mem_cons_self⟩
  · rintro ⟨hk, hb⟩
    have hm := h.mem hk
    rcases List.mem_append.mp hm with m | m
    · exact m
    · rcases List.mem_cons.mp m with m | m
      · rw [m, O.irr] at hb; cases hb
      · have q := (List.pairwise_cons.mp h2).1 k m
        rw [O.as _ _ q] at hb; cases hb
theorem InOrd.first (O : Ord before N) (h : InOrd before N od) (p : Nat → Bool) : od.find? p = foremost before ((List.range N).filter p) := by
  cases e : od.find? p with
  | none =>
    have hn := List.find?_eq_none.mp e
    have e2 : (List.range N).filter p = [] := by
      rw [List.filter_eq_nil_iff]
      intro k hk
      exact hn k (h.mem (List.mem_range.mp hk))
    rw [e2]
    rfl
  | some a =>
    obtain ⟨pre, post, rfl, hp, hpre⟩ : ∃ pre post, od = pre ++ a :: post ∧ p a = true ∧ ∀ b ∈ pre, p b = false := by
      obtain ⟨h1, as, bs, h2, h3⟩ := List.find?_eq_some_iff_append.mp e
      exact ⟨as, bs, h2, h1, fun b hb => by simpa using h3 b hb⟩
    refine (foremost_some O.as ?_ ?_).symm
    · exact List.mem_filter.mpr ⟨List.mem_range.mpr (h.lt (List.mem_append_right _ List.mem_cons_self)), hp⟩
    · intro b hb
      obtain ⟨h1, h2⟩ := List.mem_filter.mp hb
      have hm := h.mem (List.mem_range.mp h1)
      rcases List.mem_append.mp hm with m | m
      · rw [hpre b m] at h2; cases h2
      · rcases List.mem_cons.mp m with m | m
        · exact .inl m.symm
        · have hw := h.pw
          rw [List.pairwise_append] at hw
          exact .inr ((List.pairwise_cons.mp hw.2.1).1 b m)
theorem InOrd.greedy {β : Type} (O : Ord before N) (h : InOrd before N (pre ++ n :: post)) (ok : Nat → Prop) (f : Nat → β) :
    (∃ k, k < N ∧ before k n = true ∧ ok k ∧ f k = f n) ↔ ∃ k, k ∈ pre ∧ (ok k ∧ ¬ ∃ j, j < N ∧ before j k = true ∧ ok j ∧ f j = f k) ∧ f k = f n := by
  constructor
  · rintro ⟨k, h1, h2, h3, h4⟩
    classical
    obtain ⟨a, ha, hall⟩ := foremost_ex O.tr ((List.range N).filter fun k => decide (before k n = true ∧ ok k ∧ f k = f n)) (fun e => by
        have : k ∈ (List.range N).filter fun k => decide (before k n = true ∧ ok k ∧ f k = f n) := List.mem_filter.mpr ⟨List.mem_range.mpr h1, decide_eq_true ⟨h2, h3, h4⟩⟩
        rw [e] at this; cases this)
      (fun x hx y hy hxy => O.tot x y (List.mem_range.mp (List.mem_filter.mp hx).1) (List.mem_range.mp (List.mem_filter.mp hy).1) hxy)
    obtain ⟨a1, a2⟩ := List.mem_filter.mp ha
    have a2 := of_decide_eq_true a2
    have a1 := List.mem_range.mp a1
    refine ⟨a, (h.ahead O).mpr ⟨a1, a2.1⟩, ⟨a2.2.1, ?_⟩, a2.2.2⟩
    rintro ⟨j, j1, j2, j3, j4⟩
    have hj : j ∈ (List.range N).filter fun k => decide (before k n = true ∧ ok k ∧ f k = f n) := List.mem_filter.mpr ⟨List.mem_range.mpr j1, decide_eq_true ⟨O.tr _ _ _ j2 a2.1, j3, j4.trans a2.2.2⟩⟩
    rcases hall j hj with z | z
    · rw [z, O.irr] at j2; cases j2
    · rw [O.as _ _ z] at j2; cases j2
  · rintro ⟨k, h1, ⟨h2, _⟩, h3⟩
    obtain ⟨l, b⟩ := (h.ahead O).mp h1
    exact ⟨k, l, b, h2, h3⟩
end
theorem genusHom_iff (s : Abs) (n : Nat) : genusHomonym s n = true ↔ ∃ k, k < s.genera.length ∧ genusBefore s k n = true ∧ genusRejected s k = false ∧ genusWord s k = genusWord s n := by
  unfold genusHomonym genusNumbers
  rw [List.any_eq_true]
  constructor
  · rintro ⟨k, hk, h⟩
    simp only [Bool.and_eq_true, Bool.not_eq_true', beq_iff_eq] at h
    exact ⟨k, List.mem_range.mp hk, h.1.1, h.1.2, h.2⟩
  · rintro ⟨k, hk, h1, h2, h3⟩
    exact ⟨k, List.mem_range.mpr hk, by simp [h1, h2, h3]⟩
theorem genusGood_iff (s : Abs) (n : Nat) : genusGood s n = true ↔ genusRejected s n = false ∧ ¬ genusHomonym s n = true := by
  unfold genusGood
  simp
theorem good_genus {s : Abs} {pre post : List Nat} {n : Nat} (h : InOrd (genusBefore s) s.genera.length (pre ++ n :: post)) :
    genusHomonym s n = true ↔ genusWord s n ∈ (pre.filter (genusGood s)).map (genusWord s) := by
  rw [genusHom_iff, h.greedy (ordG s) (fun k => genusRejected s k = false) (genusWord s)]
  constructor
  · rintro ⟨k, h1, ⟨h2, h3⟩, h4⟩
    refine List.mem_map.mpr ⟨k, List.mem_filter.mpr ⟨h1, ?_⟩, h4⟩
    rw [genusGood_iff, genusHom_iff]
    exact ⟨h2, h3⟩
  · intro hm
    obtain ⟨k, hk, e⟩ := List.mem_map.mp hm
    obtain ⟨h1, h2⟩ := List.mem_filter.mp hk
    rw [genusGood_iff, genusHom_iff] at h2
    exact ⟨k, h1, h2, e⟩
theorem genusName_first {s : Abs} {od : List Nat} (h : InOrd (genusBefore s) s.genera.length od) (g : Nat) : od.find? (fun n => genusGood s n && groupOfGenus s n == some g) = genusName s g := h.first (ordG s) _
def birthKey (s : Abs) (n : Nat) : Bytes × Bytes := (birthGenus s n, speciesWord s n)
theorem birthHom_iff (s : Abs) (n : Nat) : birthHomonym s n = true ↔ ∃ k, k < s.species.length ∧ speciesBefore s k n = true ∧ speciesRejected s k = false ∧ birthKey s k = birthKey s n := by
  unfold birthHomonym speciesNumbers
  rw [List.any_eq_true]
  constructor
  · rintro ⟨k, hk, h⟩
    simp only [Bool.and_eq_true, Bool.not_eq_true', beq_iff_eq] at h
    exact ⟨k, List.mem_range.mp hk, h.1.1.1, h.1.1.2, Prod.ext h.2 h.1.2⟩
  · rintro ⟨k, hk, h1, h2, h3⟩
    have e1 : birthGenus s k = birthGenus s n := congrArg Prod.fst h3
    have e2 : speciesWord s k = speciesWord s n := congrArg Prod.snd h3
    exact ⟨k, List.mem_range.mpr hk, by simp [h1, h2, e1, e2]⟩
theorem speciesGood_iff (s : Abs) (n : Nat) : speciesGood s n = true ↔ speciesRejected s n = false ∧ ¬ birthHomonym s n = true := by
  unfold speciesGood
  simp
theorem good_species {s : Abs} {pre post : List Nat} {n : Nat} (h : InOrd (speciesBefore s) s.species.length (pre ++ n :: post)) :
    birthHomonym s n = true ↔ birthKey s n ∈ (pre.filter (speciesGood s)).map (birthKey s) := by
  rw [birthHom_iff, h.greedy (ordS s) (fun k => speciesRejected s k = false) (birthKey s)]
  constructor
  · rintro ⟨k, h1, ⟨h2, h3⟩, h4⟩
    refine List.mem_map.mpr ⟨k, List.mem_filter.mpr ⟨h1, ?_⟩, h4⟩
    rw [speciesGood_iff, birthHom_iff]
    exact ⟨h2, h3⟩
  · intro hm
    obtain ⟨k, hk, e⟩ := List.mem_map.mp hm
    obtain ⟨h1, h2⟩ := List.mem_filter.mp hk
    rw [speciesGood_iff, birthHom_iff] at h2
    exact ⟨k, h1, h2, e⟩
def takes (s : Abs) (n : Nat) : Bool := speciesGood s n && (groupIn s n).isSome && !groupHomonym s n
def grpKey (s : Abs) (n : Nat) : Nat × Bytes := ((groupIn s n).getD 0, speciesWord s n)
theorem groupHom_iff (s : Abs) (n : Nat) : groupHomonym s n = true ↔ ∃ k, k < s.species.length ∧ speciesBefore s k n = true ∧ speciesGood s k = true ∧ (speciesWord s k = speciesWord s n ∧ groupIn s k = groupIn s n) := by
  unfold groupHomonym speciesNumbers
  rw [List.any_eq_true]
  constructor
  · rintro ⟨k, hk, h⟩
    simp only [Bool.and_eq_true, beq_iff_eq] at h
    exact ⟨k, List.mem_range.mp hk, h.1.1.1, h.1.1.2, h.1.2, h.2⟩
  · rintro ⟨k, hk, h1, h2, h3, h4⟩
    exact ⟨k, List.mem_range.mpr hk, by simp [h1, h2, h3, h4]⟩
theorem grp_eq {s : Abs} {a b : Nat} (ha : (groupIn s a).isSome = true) (hb : (groupIn s b).isSome = true) : grpKey s a = grpKey s b ↔ (speciesWord s a = speciesWord s b ∧ groupIn s a = groupIn s b) := by
  obtain ⟨g, eg⟩ := Option.isSome_iff_exists.mp ha
  obtain ⟨k, ek⟩ := Option.isSome_iff_exists.mp hb
  unfold grpKey
  rw [eg, ek]
  constructor
  · intro h
    have h1 : g = k := congrArg Prod.fst h
    exact ⟨congrArg Prod.snd h, by rw [h1]⟩
  · rintro ⟨h1, h2⟩
    rw [h1]
    have h2 : g = k := Option.some.inj h2
    rw [h2]
theorem group_taken {s : Abs} {pre post : List Nat} {n : Nat} (h : InOrd (speciesBefore s) s.species.length (pre ++ n :: post)) (hg : (groupIn s n).isSome = true) :
    groupHomonym s n = true ↔ grpKey s n ∈ (pre.filter (takes s)).map (grpKey s) := by
  have hom : ∀ m, (groupIn s m).isSome = true → (groupHomonym s m = true ↔ ∃ k, k < s.species.length ∧ speciesBefore s k m = true ∧ (speciesGood s k = true ∧ (groupIn s k).isSome = true) ∧ grpKey s k = grpKey s m) := fun m hm => by
    rw [groupHom_iff]
    constructor
    · rintro ⟨k, h1, h2, h3, h4⟩
      have hk : (groupIn s k).isSome = true := by rw [h4.2]; exact hm
      exact ⟨k, h1, h2, ⟨h3, hk⟩, (grp_eq hk hm).mpr h4⟩
    · rintro ⟨k, h1, h2, h3, h4⟩
      exact ⟨k, h1, h2, h3.1, (grp_eq h3.2 hm).mp h4⟩
  rw [hom n hg, h.greedy (ordS s) (fun k => speciesGood s k = true ∧ (groupIn s k).isSome = true) (grpKey s)]
  constructor
  · rintro ⟨k, h1, ⟨h2, h3⟩, h4⟩
    refine List.mem_map.mpr ⟨k, List.mem_filter.mpr ⟨h1, ?_⟩, h4⟩
    unfold takes
    have : groupHomonym s k = false := by
      cases e : groupHomonym s k with
      | false => rfl
      | true => exact absurd ((hom k h2.2).mp e) h3
    rw [h2.1, h2.2, this]
    rfl
  · intro hm
    obtain ⟨k, hk, e⟩ := List.mem_map.mp hm
    obtain ⟨h1, h2⟩ := List.mem_filter.mp hk
    unfold takes at h2
    simp only [Bool.and_eq_true, Bool.not_eq_true'] at h2
    refine ⟨k, h1, ⟨h2.1, fun z => ?_⟩, e⟩
    have := (hom k h2.1.2).mpr z
    rw [h2.2] at this
    cases this
theorem speciesName_first {s : Abs} {od : List Nat} (h : InOrd (speciesBefore s) s.species.length od) (k : Nat) : od.find? (fun n => takes s n && kindIn s n == some k) = speciesName s k := by
  rw [h.first (ordS s)]
  unfold speciesName
  by_cases hg : ((s.groupOf[k]?).bind id).isNone = true
  · rw [if_pos hg]
    have e : (List.range s.species.length).filter (fun n => takes s n && kindIn s n == some k) = [] := by
      rw [List.filter_eq_nil_iff]
      intro n _ z
      rw [Bool.and_eq_true, beq_iff_eq] at z
      unfold takes at z
      simp only [Bool.and_eq_true] at z
      obtain ⟨⟨⟨_, z1⟩, _⟩, z2⟩ := z
      unfold groupIn at z1
      rw [z2] at z1
      have z1 : ((s.groupOf[k]?).bind id).isSome = true := z1
      cases q : (s.groupOf[k]?).bind id with
      | none => rw [q] at z1; cases z1
      | some x => rw [q] at hg; cases hg
    rw [e]
    rfl
  · rw [if_neg hg]
    congr 1
    unfold speciesNumbers
    refine List.filter_congr fun n _ => ?_
    unfold takes
    by_cases hk : kindIn s n = some k
    · have e : (groupIn s n).isSome = true := by
        unfold groupIn
        rw [hk]
        show ((s.groupOf[k]?).bind id).isSome = true
        cases q : (s.groupOf[k]?).bind id with
        | none => rw [q] at hg; exact absurd rfl hg
        | some x => rfl
      rw [e, hk, beq_self_eq_true]
      cases speciesGood s n <;> cases groupHomonym s n <;> rfl
    · have e : (kindIn s n == some k) = false := by
        cases q : (kindIn s n == some k) with
        | false => rfl
        | true => exact absurd (eq_of_beq q) hk
      rw [e]
      cases speciesGood s n <;> cases groupHomonym s n <;> cases (groupIn s n).isSome <;> rfl
theorem status_next {s : Abs} {pre post : List Nat} {n : Nat} (h : InOrd (speciesBefore s) s.species.length (pre ++ n :: post)) :
    status s n = if speciesRejected s n = true then 4 else if birthHomonym s n = true then 2 else if (groupIn s n).isNone = true then 5 else if groupHomonym s n = true then 3
      else if (pre.find? fun m => takes s m && kindIn s m == kindIn s n).isSome = true then 1 else 0 := by
  unfold status
  by_cases h1 : speciesRejected s n = true
  · rw [if_pos h1, if_pos h1]
  rw [if_neg h1, if_neg h1]
  by_cases h2 : birthHomonym s n = true
  · rw [if_pos h2, if_pos h2]
  rw [if_neg h2, if_neg h2]
  cases hk : kindIn s n with
  | none =>
    have e : groupIn s n = none := by unfold groupIn; rw [hk]; rfl
    rw [e, if_pos (show (none : Option Nat).isNone = true from rfl)]
  | some k =>
    dsimp only
    by_cases h3 : groupIn s n = none
    · rw [if_pos h3, h3, if_pos (show (none : Option Nat).isNone = true from rfl)]
    have h3' : ¬ (groupIn s n).isNone = true := by
      cases q : groupIn s n with
      | none => exact absurd q h3
      | some g => exact Bool.false_ne_true
    rw [if_neg h3, if_neg h3']
    by_cases h4 : groupHomonym s n = true
    · rw [if_pos h4, if_pos h4]
    rw [if_neg h4, if_neg h4]
    have tk : (takes s n && kindIn s n == some k) = true := by
      unfold takes
      have g : speciesGood s n = true := (speciesGood_iff s n).mpr ⟨by simpa using h1, h2⟩
      have i : (groupIn s n).isSome = true := by
        cases q : groupIn s n with
        | none => exact absurd q h3
        | some g => rfl
      have j : groupHomonym s n = false := by simpa using h4
      rw [g, i, j, hk, beq_self_eq_true]
      rfl
    have ef := speciesName_first h k
    rw [List.find?_append] at ef
    cases q : pre.find? (fun m => takes s m && kindIn s m == some k) with
    | none =>
      rw [q, Option.none_or, List.find?_cons, tk] at ef
      rw [if_pos ef.symm, if_neg (by exact Bool.false_ne_true)]
    | some m =>
      rw [q, Option.some_or] at ef
      have hm := List.mem_of_find?_eq_some q
      have hb := ((h.ahead (ordS s)).mp hm).2
      have ne : ¬ speciesName s k = some n := fun z => by
        rw [z] at ef
        have : m = n := Option.some.inj ef
        rw [this, sb_irrefl] at hb
        cases hb
      rw [if_neg ne, if_pos (show (some m).isSome = true from rfl)]
theorem namesIn_first {s : Abs} {od : List Nat} (h : InOrd (speciesBefore s) s.species.length od) (k : Nat) : namesIn s k = od.filter fun n => kindIn s n == some k :=
  namesIn_is (h.perm.filter _) (h.pw.filter _)
end Ns
end
section
set_option Elab.async false
set_option linter.all false
set_option maxRecDepth 100000
set_option maxHeartbeats 2000000
namespace Ns
open PySem PySem.Spec PyProof.Rows L2
open PySem.W (Codec)
open Kct4 (Abs Genus Species Ruled)
def encK : Option Nat → V
  | none => .int 256
  | some k => .int (k : Int)
def encG : Option Nat → V
  | none => .int 64
  | some k => .int (k : Int)
def typV : Option Nat → V
  | none => .non
  | some n => .int (n : Int)
def rulN : Ruled → Nat
  | .no => 0
  | .rejected => 1
  | .conserved => 2
def wordV (w : List Nat) : List V := w.map fun (n : Nat) => V.int (n : Int)
def genF (wa : Addr) (x : Genus) : List (Str × V) := [("word", .ref wa), ("day", .int (x.day : Int)), ("anchor", typV x.type_), ("ruling", .int (rulN x.ruled : Int))]
def spcF (wa : Addr) (x : Species) : List (Str × V) := [("genus", .int (x.genus : Int)), ("word", .ref wa), ("day", .int (x.day : Int)), ("specimen", .int (x.type_ : Int)), ("ruling", .int (rulN x.ruled : Int))]
structure BL where
  b : Addr
  lg : Addr
  ls : Addr
  lk : Addr
  lo : Addr
  gs : List (Addr × Addr)
  ss : List (Addr × Addr)
def bkF (L : BL) : List (Str × V) := [("genera", .ref L.lg), ("species", .ref L.ls), ("kinds", .ref L.lk), ("groups", .ref L.lo)]
def GenAt (C : Addr) (H : Hp) (p : Addr × Addr) (x : Genus) : Prop := (∃ dx, H p.1 = some (.ins C dx (genF p.2 x))) ∧ H p.2 = some (.tup (wordV x.word))
def SpcAt (C : Addr) (H : Hp) (p : Addr × Addr) (x : Species) : Prop := (∃ dx, H p.1 = some (.ins C dx (spcF p.2 x))) ∧ H p.2 = some (.tup (wordV x.word))
def BL.In (L : BL) (p : Addr) : Prop := p = L.b ∨ p = L.lg ∨ p = L.ls ∨ p = L.lk ∨ (∃ q, q ∈ L.gs ∧ (p = q.1 ∨ p = q.2)) ∨ (∃ q, q ∈ L.ss ∧ (p = q.1 ∨ p = q.2)) ∨ p = L.lo
structure BookAt (t : Adr) (H : Hp) (L : BL) (s : Abs) : Prop where
  bk : ∃ dx, H L.b = some (.ins t.C_Book dx (bkF L))
  lg : H L.lg = some (.lst (L.gs.map fun p => V.ref p.1))
  ls : H L.ls = some (.lst (L.ss.map fun p => V.ref p.1))
  lk : H L.lk = some (.lst (s.kindOf.map encK))
  lo : H L.lo = some (.lst (s.groupOf.map encG))
  ngs : L.lg ≠ L.ls
  ngk : L.lg ≠ L.lk
  nsk : L.ls ≠ L.lk
  ngo : L.lg ≠ L.lo
  nso : L.ls ≠ L.lo
  nko : L.lk ≠ L.lo
  gl : L.gs.length = s.genera.length
  sl : L.ss.length = s.species.length
  gat : ∀ (i : Nat) p x, L.gs[i]? = some p → s.genera[i]? = some x → GenAt t.C_Genus H p x
  sat : ∀ (i : Nat) p x, L.ss[i]? = some p → s.species[i]? = some x → SpcAt t.C_Species H p x
  gnd : (L.gs.map (·.1)).Nodup
  snd : (L.ss.map (·.1)).Nodup
structure Ext (H H' : Hp) (L L' : BL) (more : Addr → Prop) : Prop where
  b : L'.b = L.b
  new : ∀ p, L'.In p → L.In p ∨ H p = none ∨ more p
  keep : ∀ p o, H p = some o → ¬ L.In p → H' p = some o
  dom : ∀ p o, H p = some o → ∃ o', H' p = some o'
section
variable {t : Adr} {H H' : Hp} {L : BL} {s : Abs}
theorem BookAt.gx (B : BookAt t H L s) {p : Addr × Addr} (h : p ∈ L.gs) : ∃ (i : Nat) (x : Genus), L.gs[i]? = some p ∧ s.genera[i]? = some x ∧ GenAt t.C_Genus H p x := by
  obtain ⟨i, hi, e⟩ := List.getElem_of_mem h
  have e1 : L.gs[i]? = some p := by rw [List.getElem?_eq_getElem hi, e]
  have hi2 : i < s.genera.length := by rw [← B.gl]; exact hi
  exact ⟨i, _, e1, List.getElem?_eq_getElem hi2, B.gat i p _ e1 (List.getElem?_eq_getElem hi2)⟩
theorem BookAt.sx (B : BookAt t H L s) {p : Addr × Addr} (h : p ∈ L.ss) : ∃ (i : Nat) (x : Species), L.ss[i]? = some p ∧ s.species[i]? = some x ∧ SpcAt t.C_Species H p x := by
  obtain ⟨i, hi, e⟩ := List.getElem_of_mem h
  have e1 : L.ss[i]? = some p := by rw [List.getElem?_eq_getElem hi, e]
  have hi2 : i < s.species.length := by rw [← B.sl]; exact hi
  exact ⟨i, _, e1, List.getElem?_eq_getElem hi2, B.sat i p _ e1 (List.getElem?_eq_getElem hi2)⟩
theorem BookAt.there (B : BookAt t H L s) {p : Addr} (h : L.In p) : ∃ o, H p = some o := by
  rcases h with rfl | rfl | rfl | rfl | ⟨q, hq, rfl | rfl⟩ | ⟨q, hq, rfl | rfl⟩ | rfl
  · obtain ⟨dx, e⟩ := B.bk; exact ⟨_, e⟩
  · exact ⟨_, B.lg⟩
  · exact ⟨_, B.ls⟩
  · exact ⟨_, B.lk⟩
  · obtain ⟨i, x, _, _, ⟨dx, e⟩, _⟩ := B.gx hq; exact ⟨_, e⟩
  · obtain ⟨i, x, _, _, _, e⟩ := B.gx hq; exact ⟨_, e⟩
  · obtain ⟨i, x, _, _, ⟨dx, e⟩, _⟩ := B.sx hq; exact ⟨_, e⟩
  · obtain ⟨i, x, _, _, _, e⟩ := B.sx hq; exact ⟨_, e⟩
  · exact ⟨_, B.lo⟩
theorem BookAt.stay (B : BookAt t H L s) (k : ∀ p o, L.In p → H p = some o → H' p = some o) : BookAt t H' L s := by
  refine ⟨?_, k _ _ (.inr (.inl rfl)) B.lg, k _ _ (.inr (.inr (.inl rfl))) B.ls, k _ _ (.inr (.inr (.inr (.inl rfl)))) B.lk, k _ _ (.inr (.inr (.inr (.inr (.inr (.inr rfl)))))) B.lo, B.ngs, B.ngk, B.nsk, B.ngo, B.nso, B.nko, B.gl, B.sl, fun i p x h1 h2 => ?_, fun i p x h1 h2 => ?_, B.gnd, B.snd⟩
  · obtain ⟨dx, e⟩ := B.bk
    exact ⟨dx, k _ _ (.inl rfl) e⟩
  · obtain ⟨⟨dx, e⟩, e2⟩ := B.gat i p x h1 h2
    have hm := List.mem_of_getElem? h1
    exact ⟨⟨dx, k _ _ (.inr (.inr (.inr (.inr (.inl ⟨p, hm, .inl rfl⟩))))) e⟩, k _ _ (.inr (.inr (.inr (.inr (.inl ⟨p, hm, .inr rfl⟩))))) e2⟩
  · obtain ⟨⟨dx, e⟩, e2⟩ := B.sat i p x h1 h2
    have hm := List.mem_of_getElem? h1
    exact ⟨⟨dx, k _ _ (.inr (.inr (.inr (.inr (.inr (.inl ⟨p, hm, .inl rfl⟩)))))) e⟩, k _ _ (.inr (.inr (.inr (.inr (.inr (.inl ⟨p, hm, .inr rfl⟩)))))) e2⟩
theorem BookAt.same (B : BookAt t H L s) (k : Same H H') : BookAt t H' L s := B.stay fun p o _ e => k p o e
theorem Ext.refl (more : Addr → Prop) (k : Same H H') : Ext H H' L L more := ⟨rfl, fun p h => .inl h, fun p o e _ => k p o e, fun p o e => ⟨o, k p o e⟩⟩
theorem Ext.before {H0 H1 : Hp} {L' : BL} {more : Addr → Prop} (k : Same H0 H) (x : Ext H H1 L L' more) : Ext H0 H1 L L' more :=
  ⟨x.b, fun p h => (x.new p h).imp id (Or.imp (fun z => Same.free k z) id), fun p o e n => x.keep p o (k p o e) n, fun p o e => x.dom p o (k p o e)⟩
end
def nats (ns : List Int) : List Nat := ns.map Int.toNat
theorem wordV_nats : ∀ {ns : List Int}, (∀ z ∈ ns, 0 ≤ z) → wordV (nats ns) = ns.map V.int
  | [], _ => rfl
  | z :: r, h => by
    have h1 := wordV_nats (ns := r) fun y hy => h y (List.mem_cons_of_mem _ hy)
    have h0 := h z List.mem_cons_self
    show V.int ((z.toNat : Nat) : Int) :: wordV (nats r) = V.int z :: r.map V.int
    rw [h1, Int.toNat_of_nonneg h0]
theorem small_nat {z : Int} (h : 0 ≤ z) : Kct4.small z.toNat = isSm z := by
  unfold Kct4.small isSm
  have e1 : decide (97 ≤ z.toNat) = decide (97 ≤ z) := by
    by_cases q : 97 ≤ z
    · rw [decide_eq_true q]; exact decide_eq_true (by omega)
    · rw [decide_eq_false q]; exact decide_eq_false (by omega)
  have e2 : decide (z.toNat ≤ 122) = decide (z ≤ 122) := by
    by_cases q : z ≤ 122
    · rw [decide_eq_true q]; exact decide_eq_true (by omega)
    · rw [decide_eq_false q]; exact decide_eq_false (by omega)
  rw [e1, e2]
theorem all_small : ∀ {ns : List Int}, (∀ z ∈ ns, 0 ≤ z) → (nats ns).all Kct4.small = ns.all isSm
  | [], _ => rfl
  | z :: r, h => by
    show (Kct4.small z.toNat && (nats r).all Kct4.small) = (isSm z && r.all isSm)
    rw [small_nat (h z List.mem_cons_self), all_small fun y hy => h y (List.mem_cons_of_mem _ hy)]
theorem isWord_nats {ns : List Int} (h : ∀ z ∈ ns, 0 ≤ z) : Kct4.isWord (nats ns) = isWordZ ns := by
  unfold Kct4.isWord isWordZ wlZ
  rw [all_small h]
  unfold nats Kct4.WORD
  rw [List.length_map]
theorem isGreat_nats {ns : List Int} (h : ∀ z ∈ ns, 0 ≤ z) : Kct4.isGreat (nats ns) = isGreatZ ns := by
  unfold Kct4.isGreat isGreatZ wlZ
  have e : (nats ns).length = ns.length := List.length_map _
  rw [e]
  unfold Kct4.WORD
  congr 1
  cases ns with
  | nil => rfl
  | cons z r =>
    have h0 := h z List.mem_cons_self
    show (decide (65 ≤ z.toNat) && decide (z.toNat ≤ 90) && (nats r).all Kct4.small) = (isGr z && r.all isSm)
    rw [all_small fun y hy => h y (List.mem_cons_of_mem _ hy)]
    unfold isGr
    have e1 : decide (65 ≤ z.toNat) = decide (65 ≤ z) := by
      by_cases q : 65 ≤ z
      · rw [decide_eq_true q]; exact decide_eq_true (by omega)
      · rw [decide_eq_false q]; exact decide_eq_false (by omega)
    have e2 : decide (z.toNat ≤ 90) = decide (z ≤ 90) := by
      by_cases q : z ≤ 90
      · rw [decide_eq_true q]; exact decide_eq_true (by omega)
      · rw [decide_eq_false q]; exact decide_eq_false (by omega)
    rw [e1, e2]
section
variable {P : Program} {w : World} {K : PySem.W.Frag} {mg : Str → Option Value} {base : Heap} {t : Adr}
def sp_Genus_init (C : Addr) : Sp := fun vs H Q _ => ∃ (x dx wa : Addr) (d : Nat), vs = [.ref x, .ref wa, .int (d : Int)] ∧ H x = some (.ins C dx []) ∧ ∀ w, Q .non (upd H x (.ins C dx (genF wa ⟨w, d, none, .no⟩)))
theorem ok_Genus_init (T : Txt K mg t) : FnOk P w K mg base CX0 1 t.f_Genus_init t.d_Genus_init ["self", "word", "day"] (sp_Genus_init t.C_Genus) := by
  refine T.h_Genus_init.F.ok sc_Genus_init (fun vs H Q E h => ?_) (fun cdv A outer s H vs Q E hr h => ?_)
  · obtain ⟨x, dx, wa, d, rfl, _⟩ := h
    rfl
  · obtain ⟨x, dx, wa, d, rfl, h1, k⟩ := h
    obtain ⟨k1, c1⟩ := T.c_NOTHING_RULED
    refine ⟨_, pss_cons (ps_fld (pv 0) (pv 1) rfl) (pss_cons (ps_fld (pv 0) (pv 2) rfl) (pss_cons (ps_fld (pv 0) pe_non rfl) (pss_one (ps_fld (pv 0) (pe_glob rfl c1 (v := .int 0) ⟨k1, rfl⟩) rfl)))), ?_⟩
    refine ⟨_, rfl, _, rfl, x, t.C_Genus, dx, [], rfl, h1, T.cl_Genus, T.n_Genus_word, (by decide), ?_⟩
    refine ⟨_, rfl, _, rfl, x, t.C_Genus, dx, _, rfl, upd_same, T.cl_Genus, T.n_Genus_day, (by show 1 < 1000; decide), ?_⟩
    refine ⟨_, rfl, x, t.C_Genus, dx, _, rfl, upd_same, T.cl_Genus, T.n_Genus_anchor, (by show 2 < 1000; decide), ?_⟩
    refine ⟨_, rfl, x, t.C_Genus, dx, _, rfl, upd_same, T.cl_Genus, T.n_Genus_ruling, (by show 3 < 1000; decide), ?_⟩
    show Q .non (upd (upd (upd (upd H x _) x _) x _) x _)
    rw [upd_upd, upd_upd, upd_upd]
    exact k []
def sp_Species_init (C : Addr) : Sp := fun vs H Q _ => ∃ (x dx wa : Addr) (g d ty : Nat), vs = [.ref x, .int (g : Int), .ref wa, .int (d : Int), .int (ty : Int)] ∧ H x = some (.ins C dx []) ∧ ∀ w, Q .non (upd H x (.ins C dx (spcF wa ⟨g, w, d, ty, .no⟩)))
theorem ok_Species_init (T : Txt K mg t) : FnOk P w K mg base CX0 1 t.f_Species_init t.d_Species_init ["self", "genus", "word", "day", "specimen"] (sp_Species_init t.C_Species) := by
  refine T.h_Species_init.F.ok sc_Species_init (fun vs H Q E h => ?_) (fun cdv A outer s H vs Q E hr h => ?_)
  · obtain ⟨x, dx, wa, g, d, ty, rfl, _⟩ := h
    rfl
  · obtain ⟨x, dx, wa, g, d, ty, rfl, h1, k⟩ := h
    obtain ⟨k1, c1⟩ := T.c_NOTHING_RULED
    refine ⟨_, pss_cons (ps_fld (pv 0) (pv 1) rfl) (pss_cons (ps_fld (pv 0) (pv 2) rfl) (pss_cons (ps_fld (pv 0) (pv 3) rfl) (pss_cons (ps_fld (pv 0) (pv 4) rfl) (pss_one (ps_fld (pv 0) (pe_glob rfl c1 (v := .int 0) ⟨k1, rfl⟩) rfl))))), ?_⟩
    refine ⟨_, rfl, _, rfl, x, t.C_Species, dx, [], rfl, h1, T.cl_Species, T.n_Species_genus, (by decide), ?_⟩
    refine ⟨_, rfl, _, rfl, x, t.C_Species, dx, _, rfl, upd_same, T.cl_Species, T.n_Species_word, (by show 1 < 1000; decide), ?_⟩
    refine ⟨_, rfl, _, rfl, x, t.C_Species, dx, _, rfl, upd_same, T.cl_Species, T.n_Species_day, (by show 2 < 1000; decide), ?_⟩
    refine ⟨_, rfl, _, rfl, x, t.C_Species, dx, _, rfl, upd_same, T.cl_Species, T.n_Species_specimen, (by show 3 < 1000; decide), ?_⟩
    refine ⟨_, rfl, x, t.C_Species, dx, _, rfl, upd_same, T.cl_Species, T.n_Species_ruling, (by show 4 < 1000; decide), ?_⟩
    show Q .non (upd (upd (upd (upd (upd H x _) x _) x _) x _) x _)
    rw [upd_upd, upd_upd, upd_upd, upd_upd]
    exact k []
def sp_Book_begin (t : Adr) : Sp := fun vs H Q _ => ∃ (b dx : Addr) (fs : List (Str × V)), vs = [.ref b] ∧ H b = some (.ins t.C_Book dx fs) ∧ (fs = [] ∨ ∃ L, fs = bkF L) ∧
  ∀ (L' : BL) (H' : Hp), BookAt t H' L' Kct4.first → L'.b = b → (∀ p, L'.In p → p = b ∨ H p = none) → (∀ p o, H p = some o → p ≠ b → H' p = some o) → Q (.int 0) H'
theorem bkF_put (fs : List (Str × V)) (h : fs = [] ∨ ∃ L, fs = bkF L) (b lg ls lk lo : Addr) : putF "groups" (.ref lo) (putF "kinds" (.ref lk) (putF "species" (.ref ls) (putF "genera" (.ref lg) fs))) = bkF ⟨b, lg, ls, lk, lo, [], []⟩ := by
  rcases h with rfl | ⟨L, rfl⟩
  · rfl
  · rfl
theorem ok_Book_begin (T : Txt K mg t) : FnOk P w K mg base CX0 1 t.f_Book_begin t.d_Book_begin ["self"] (sp_Book_begin t) := by
  refine T.h_Book_begin.F.ok sc_Book_begin (fun vs H Q E h => ?_) (fun cdv A outer s H vs Q E hr h => ?_)
  · obtain ⟨b, dx, fs, rfl, _⟩ := h
    rfl
  · obtain ⟨b, dx, fs, rfl, h1, hf, k⟩ := h
    obtain ⟨k1, c1⟩ := T.c_NO_KIND
    obtain ⟨k2, c2⟩ := T.c_SPECIMENS
    obtain ⟨k3, c3⟩ := T.c_NO_GROUP
    refine ⟨_, pss_cons (ps_fld (pv 0) (pe_lst pa_nil) rfl) (pss_cons (ps_fld (pv 0) (pe_lst pa_nil) rfl)
      (pss_cons (ps_fld (pv 0) (pe_op op_rep (pe_lst (pa_cons (pe_glob rfl c1 (v := .int 256) ⟨k1, rfl⟩) pa_nil)) (pe_glob rfl c2 (v := .int 1024) ⟨k2, rfl⟩)) rfl)
      (pss_cons (ps_fld (pv 0) (pe_op op_rep (pe_lst (pa_cons (pe_glob rfl c3 (v := .int 64) ⟨k3, rfl⟩) pa_nil)) (pe_glob rfl c1 (v := .int 256) ⟨k1, rfl⟩)) rfl) (pss_one (ps_ret pe_int))))), ?_⟩
    have fl : fs.length < 900 := by
      rcases hf with rfl | ⟨L, rfl⟩
      · show 0 < 900; decide
      · show 4 < 900; decide
    refine ⟨Nat.zero_le _, fun lg hlg => ⟨_, rfl, b, t.C_Book, dx, fs, rfl, (upd_ne (ne_of_none h1 hlg)).trans h1, T.cl_Book, T.n_Book_genera, (by omega), ?_⟩⟩
    have nb1 : b ≠ lg := ne_of_none h1 hlg
    have l1 := length_putF ("genera" : Str) (.ref lg) fs
    refine ⟨Nat.zero_le _, fun ls hls => ?_⟩
    have nb2 : b ≠ ls := ne_of_none upd_same hls
    refine ⟨_, rfl, b, t.C_Book, dx, _, rfl, (upd_ne nb2).trans upd_same, T.cl_Book, T.n_Book_species, (by omega), ?_⟩
    have l2 := length_putF ("species" : Str) (.ref ls) (putF "genera" (.ref lg) fs)
    refine ⟨(by show 1 ≤ sizeLine; decide), fun lt hlt => ?_⟩
    refine ⟨lt, _, _, rfl, rfl, upd_same, (by decide), (by decide), (by show 1 * 1024 ≤ sizeLine; decide), fun lk hlk => ?_⟩
    have nbt : b ≠ lt := ne_of_none upd_same hlt
    have nbk : b ≠ lk := ne_of_none ((upd_ne nbt).trans upd_same) hlk
    refine ⟨_, rfl, b, t.C_Book, dx, _, rfl, (upd_ne nbk).trans ((upd_ne nbt).trans upd_same), T.cl_Book, T.n_Book_kinds, (by omega), ?_⟩
    have l3 := length_putF ("kinds" : Str) (.ref lk) (putF "species" (.ref ls) (putF "genera" (.ref lg) fs))
    refine ⟨(by show 1 ≤ sizeLine; decide), fun lu hlu => ?_⟩
    refine ⟨lu, _, _, rfl, rfl, upd_same, (by decide), (by decide), (by show 1 * 256 ≤ sizeLine; decide), fun lo hlo => ?_⟩
    have nbu : b ≠ lu := ne_of_none upd_same hlu
    have nbo : b ≠ lo := ne_of_none ((upd_ne nbu).trans upd_same) hlo
    refine ⟨_, rfl, b, t.C_Book, dx, _, rfl, (upd_ne nbo).trans ((upd_ne nbu).trans upd_same), T.cl_Book, T.n_Book_groups, (by omega), ?_⟩
    have e := bkF_put fs hf b lg ls lk lo
    have ngs : lg ≠ ls := ne_of_none ((upd_ne (Ne.symm nb1)).trans upd_same) hls
    have hg3 := (upd_ne (H := upd (upd H lg (.lst [])) b (.ins t.C_Book dx (putF "genera" (.ref lg) fs))) (o := .lst []) ngs).trans ((upd_ne (Ne.symm nb1)).trans upd_same)
    have hg4 := (upd_ne (H := upd (upd (upd H lg (.lst [])) b (.ins t.C_Book dx (putF "genera" (.ref lg) fs))) ls (.lst [])) (o := .ins t.C_Book dx (putF "species" (.ref ls) (putF "genera" (.ref lg) fs))) (Ne.symm nb1)).trans hg3
    have hs4 := (upd_ne (H := upd (upd (upd H lg (.lst [])) b (.ins t.C_Book dx (putF "genera" (.ref lg) fs))) ls (.lst [])) (o := .ins t.C_Book dx (putF "species" (.ref ls) (putF "genera" (.ref lg) fs))) (Ne.symm nb2)).trans upd_same
    have ngt : lg ≠ lt := ne_of_none hg4 hlt
    have nst : ls ≠ lt := ne_of_none hs4 hlt
    have ngk : lg ≠ lk := ne_of_none ((upd_ne ngt).trans hg4) hlk
    have nsk : ls ≠ lk := ne_of_none ((upd_ne nst).trans hs4) hlk
    have ntk : lt ≠ lk := ne_of_none upd_same hlk
    have fls : H ls = none := by
      rw [upd_ne (Ne.symm nb2), upd_ne (Ne.symm ngs)] at hls
      exact hls
    have flt : H lt = none := by
      rw [upd_ne (Ne.symm nbt), upd_ne (Ne.symm nst), upd_ne (Ne.symm nbt), upd_ne (Ne.symm ngt)] at hlt
      exact hlt
    have flk : H lk = none := by
      rw [upd_ne (Ne.symm ntk), upd_ne (Ne.symm nbk), upd_ne (Ne.symm nsk), upd_ne (Ne.symm nbk), upd_ne (Ne.symm ngk)] at hlk
      exact hlk
    generalize eH4 : upd (upd (upd (upd H lg (.lst [])) b (.ins t.C_Book dx (putF "genera" (.ref lg) fs))) ls (.lst [])) b (.ins t.C_Book dx (putF "species" (.ref ls) (putF "genera" (.ref lg) fs))) = H4 at *
    have e4 : ∀ p o, H p = some o → p ≠ b → H4 p = some o := fun p o e ne => by
      rw [← eH4, upd_ne ne, upd_ne (ne_of_none e fls), upd_ne ne, upd_ne (ne_of_none e hlg)]
      exact e
    generalize eH6 : upd (upd (upd H4 lt _) lk _) b (HO.ins t.C_Book dx (putF "kinds" (.ref lk) (putF "species" (.ref ls) (putF "genera" (.ref lg) fs)))) = H6 at *
    have e6 : ∀ p o, H4 p = some o → p ≠ b → p ≠ lt → p ≠ lk → H6 p = some o := fun p o e ne n1 n2 => by
      rw [← eH6, upd_ne ne, upd_ne n2, upd_ne n1]
      exact e
    have hk6 : H6 lk = some (.lst ((List.replicate 1024 none).map encK)) := by
      rw [← eH6, upd_ne (Ne.symm nbk), upd_same]
      refine congrArg (fun q => some (HO.lst q)) ?_
      show (List.replicate 1024 [V.int 256]).flatten = _
      rw [List.map_replicate, List.flatten_replicate_singleton]
      all_goals rfl
    have hg6 := e6 lg _ hg4 (Ne.symm nb1) ngt ngk
    have hs6 := e6 ls _ hs4 (Ne.symm nb2) nst nsk
    have ngu : lg ≠ lu := ne_of_none hg6 hlu
    have nsu : ls ≠ lu := ne_of_none hs6 hlu
    have nku : lk ≠ lu := ne_of_none hk6 hlu
    have ngo : lg ≠ lo := ne_of_none ((upd_ne ngu).trans hg6) hlo
    have nso : ls ≠ lo := ne_of_none ((upd_ne nsu).trans hs6) hlo
    have nko : lk ≠ lo := ne_of_none ((upd_ne nku).trans hk6) hlo
    have nuo : lu ≠ lo := ne_of_none upd_same hlo
    have fH6 : ∀ p, H6 p = none → p ≠ b → H p = none := fun p e ne => by
      cases q : H p with
      | none => rfl
      | some o =>
        rw [e6 p o (e4 p o q ne) ne (ne_of_none q flt) (ne_of_none q flk)] at e
        cases e
    have flu : H lu = none := fH6 lu hlu (Ne.symm nbu)
    have flo : H lo = none := fH6 lo (by rw [upd_ne (Ne.symm nuo)] at hlo; exact hlo) (Ne.symm nbo)
    refine k ⟨b, lg, ls, lk, lo, [], []⟩ _ ?_ rfl ?_ ?_
    · refine ⟨⟨dx, upd_same.trans (congrArg (fun q => some (HO.ins t.C_Book dx q)) e)⟩, ?_, ?_, ?_, ?_, ngs, ngk, nsk, ngo, nso, nko, rfl, rfl, fun i p x h => by simp at h, fun i p x h => by simp at h, List.nodup_nil, List.nodup_nil⟩
      · exact (upd_ne (Ne.symm nb1)).trans ((upd_ne ngo).trans ((upd_ne ngu).trans hg6))
      · exact (upd_ne (Ne.symm nb2)).trans ((upd_ne nso).trans ((upd_ne nsu).trans hs6))
      · exact (upd_ne (Ne.symm nbk)).trans ((upd_ne nko).trans ((upd_ne nku).trans hk6))
      · refine (upd_ne (Ne.symm nbo)).trans (upd_same.trans ?_)
        refine congrArg (fun q => some (HO.lst q)) ?_
        show (List.replicate 256 [V.int 64]).flatten = (List.replicate 256 none).map encG
        rw [List.map_replicate, List.flatten_replicate_singleton]
        all_goals rfl
    · rintro p (rfl | rfl | rfl | rfl | ⟨q, hq, _⟩ | ⟨q, hq, _⟩ | rfl)
      · exact .inl rfl
      · exact .inr hlg
      · exact .inr fls
      · exact .inr flk
      · cases hq
      · cases hq
      · exact .inr flo
    · intro p o e ne
      rw [upd_ne ne, upd_ne (ne_of_none e flo), upd_ne (ne_of_none e flu)]
      exact e6 p o (e4 p o e ne) ne (ne_of_none e flt) (ne_of_none e flk)
end
end Ns
end
section
set_option Elab.async false
set_option linter.all false
set_option maxRecDepth 100000
set_option maxHeartbeats 2000000
namespace Ns
open PySem PySem.Spec PyProof.Rows L2
open PySem.W (Codec)
open Kct4 (Abs Genus Species Ruled Call)
section
variable {P : Program} {w : World} {K : PySem.W.Frag} {mg : Str → Option Value} {base : Heap} {t : Adr}
def Then (t : Adr) (H : Hp) (L : BL) (s : Abs) (c : Call) (more : Addr → Prop) (Q : VK) : Prop :=
  ∀ (L' : BL) (H' : Hp) (s' : Abs) (v : Int), Kct4.step s c = (s', .num v) → BookAt t H' L' s' → Ext H H' L L' more → Q (.int v) H'
theorem lt_nat {a b : Nat} : decide ((b : Int) < (a : Int)) = decide (b < a) := by
  by_cases h : b < a
  · rw [decide_eq_true h]; exact decide_eq_true (by omega)
  · rw [decide_eq_false h]; exact decide_eq_false (by omega)
theorem le_nat {a b : Nat} : decide ((b : Int) ≤ (a : Int)) = decide (b ≤ a) := by
  by_cases h : b ≤ a
  · rw [decide_eq_true h]; exact decide_eq_true (by omega)
  · rw [decide_eq_false h]; exact decide_eq_false (by omega)
theorem bk_gen (L : BL) : (bkF L).lookup ("genera" : Str) = some (.ref L.lg) := rfl
theorem bk_spc (L : BL) : (bkF L).lookup ("species" : Str) = some (.ref L.ls) := rfl
theorem bk_grp (L : BL) : (bkF L).lookup ("groups" : Str) = some (.ref L.lo) := rfl
theorem bk_knd (L : BL) : (bkF L).lookup ("kinds" : Str) = some (.ref L.lk) := rfl
theorem line_of_small {n : Nat} (h : n < 100000) : n < sizeLine := Nat.lt_of_lt_of_le h (by decide)
theorem BookAt.addG {H : Hp} {L : BL} {s : Abs} {x dx wa : Addr} {g : Genus} (B : BookAt t H L s) (hw : H wa = some (.tup (wordV g.word))) {H' : Hp} (nx : H x = none)
    (hk : ∀ p o, H p = some o → p ≠ L.lg → H' p = some o) (hx : H' x = some (.ins t.C_Genus dx (genF wa g))) (hl : H' L.lg = some (.lst ((L.gs ++ [(x, wa)]).map fun p => V.ref p.1))) :
    BookAt t H' { L with gs := L.gs ++ [(x, wa)] } { s with genera := s.genera ++ [g] } := by
  obtain ⟨db, hb⟩ := B.bk
  have nlb : L.b ≠ L.lg := ne_of hb B.lg (by intro z; cases z)
  have wl : wa ≠ L.lg := ne_of hw B.lg (by intro z; cases z)
  refine ⟨⟨db, hk _ _ hb nlb⟩, hl, hk _ _ B.ls (Ne.symm B.ngs), hk _ _ B.lk (Ne.symm B.ngk), hk _ _ B.lo (Ne.symm B.ngo), B.ngs, B.ngk, B.nsk, B.ngo, B.nso, B.nko, ?_, B.sl, fun i p y h1 h2 => ?_, fun i p y h1 h2 => ?_, ?_, B.snd⟩
  · show (L.gs ++ [(x, wa)]).length = (s.genera ++ [g]).length
    rw [List.length_append, List.length_append, B.gl]
    all_goals rfl
  · have h1 : (L.gs ++ [(x, wa)])[i]? = some p := h1
    have h2 : (s.genera ++ [g])[i]? = some y := h2
    by_cases hi : i < L.gs.length
    · rw [List.getElem?_append_left hi] at h1
      rw [List.getElem?_append_left (by rw [← B.gl]; exact hi)] at h2
      obtain ⟨⟨dy, e1⟩, e2⟩ := B.gat i p y h1 h2
      have hm := List.mem_of_getElem? h1
      exact ⟨⟨dy, hk _ _ e1 (ne_of e1 B.lg (by intro z; cases z))⟩, hk _ _ e2 (ne_of e2 B.lg (by intro z; cases z))⟩
    · have hi' : L.gs.length ≤ i := Nat.le_of_not_lt hi
      rw [List.getElem?_append_right hi'] at h1
      rw [List.getElem?_append_right (by rw [← B.gl]; exact hi')] at h2
      have e0 : i - L.gs.length = 0 := by
        have := (List.getElem?_eq_some_iff.mp h1).1
        simp at this
        omega
      rw [e0] at h1
      rw [← B.gl, e0] at h2
      have e1 : (x, wa) = p := Option.some.inj h1
      have e2 : g = y := Option.some.inj h2
      subst e1 e2
      exact ⟨⟨dx, hx⟩, hk _ _ hw wl⟩
  · obtain ⟨⟨dy, e1⟩, e2⟩ := B.sat i p y h1 h2
    have hm := List.mem_of_getElem? h1
    exact ⟨⟨dy, hk _ _ e1 (ne_of e1 B.lg (by intro z; cases z))⟩, hk _ _ e2 (ne_of e2 B.lg (by intro z; cases z))⟩
  · show ((L.gs ++ [(x, wa)]).map (·.1)).Nodup
    rw [List.map_append]
    refine nd_snoc B.gnd fun m => ?_
    obtain ⟨q, hq, e⟩ := List.mem_map.mp m
    obtain ⟨_, _, _, _, ⟨dy, e1⟩, _⟩ := B.gx hq
    have e : q.1 = x := e
    rw [e, nx] at e1
    cases e1
theorem BookAt.addS {H : Hp} {L : BL} {s : Abs} {x dx wa : Addr} {g : Species} (B : BookAt t H L s) (hw : H wa = some (.tup (wordV g.word))) {H' : Hp} (nx : H x = none)
    (hk : ∀ p o, H p = some o → p ≠ L.ls → H' p = some o) (hx : H' x = some (.ins t.C_Species dx (spcF wa g))) (hl : H' L.ls = some (.lst ((L.ss ++ [(x, wa)]).map fun p => V.ref p.1))) :
    BookAt t H' { L with ss := L.ss ++ [(x, wa)] } { s with species := s.species ++ [g] } := by
  obtain ⟨db, hb⟩ := B.bk
  have nlb : L.b ≠ L.ls := ne_of hb B.ls (by intro z; cases z)
  have wl : wa ≠ L.ls := ne_of hw B.ls (by intro z; cases z)
  refine ⟨⟨db, hk _ _ hb nlb⟩, hk _ _ B.lg B.ngs, hl, hk _ _ B.lk (Ne.symm B.nsk), hk _ _ B.lo (Ne.symm B.nso), B.ngs, B.ngk, B.nsk, B.ngo, B.nso, B.nko, B.gl, ?_, fun i p y h1 h2 => ?_, fun i p y h1 h2 => ?_, B.gnd, ?_⟩
  · show (L.ss ++ [(x, wa)]).length = (s.species ++ [g]).length
    rw [List.length_append, List.length_append, B.sl]
    all_goals rfl
  · obtain ⟨⟨dy, e1⟩, e2⟩ := B.gat i p y h1 h2
    have hm := List.mem_of_getElem? h1
    exact ⟨⟨dy, hk _ _ e1 (ne_of e1 B.ls (by intro z; cases z))⟩, hk _ _ e2 (ne_of e2 B.ls (by intro z; cases z))⟩
  · have h1 : (L.ss ++ [(x, wa)])[i]? = some p := h1
    have h2 : (s.species ++ [g])[i]? = some y := h2
    by_cases hi : i < L.ss.length
    · rw [List.getElem?_append_left hi] at h1
      rw [List.getElem?_append_left (by rw [← B.sl]; exact hi)] at h2
      obtain ⟨⟨dy, e1⟩, e2⟩ := B.sat i p y h1 h2
      have hm := List.mem_of_getElem? h1
      exact ⟨⟨dy, hk _ _ e1 (ne_of e1 B.ls (by intro z; cases z))⟩, hk _ _ e2 (ne_of e2 B.ls (by intro z; cases z))⟩
    · have hi' : L.ss.length ≤ i := Nat.le_of_not_lt hi
      rw [List.getElem?_append_right hi'] at h1
      rw [List.getElem?_append_right (by rw [← B.sl]; exact hi')] at h2
      have e0 : i - L.ss.length = 0 := by
        have := (List.getElem?_eq_some_iff.mp h1).1
        simp at this
        omega
      rw [e0] at h1
      rw [← B.sl, e0] at h2
      have e1 : (x, wa) = p := Option.some.inj h1
      have e2 : g = y := Option.some.inj h2
      subst e1 e2
      exact ⟨⟨dx, hx⟩, hk _ _ hw wl⟩
  · show ((L.ss ++ [(x, wa)]).map (·.1)).Nodup
    rw [List.map_append]
    refine nd_snoc B.snd fun m => ?_
    obtain ⟨q, hq, e⟩ := List.mem_map.mp m
    obtain ⟨_, _, _, _, ⟨dy, e1⟩, _⟩ := B.sx hq
    have e : q.1 = x := e
    rw [e, nx] at e1
    cases e1
def sp_Book_add_genus (t : Adr) : Sp := fun vs H Q _ => ∃ (L : BL) (s : Abs) (wa : Addr) (ns : List Int) (d : Nat), vs = [.ref L.b, .ref wa, .int (d : Int)] ∧ BookAt t H L s ∧ Wf s ∧ H wa = some (.tup (ns.map V.int)) ∧
  (∀ z ∈ ns, 0 ≤ z) ∧ ns.length ≤ sizeLine ∧ Then t H L s (.genus (nats ns) d) (· = wa) Q
theorem ok_Book_add_genus (T : Txt K mg t) : FnOk P w K mg base CX0 4 t.f_Book_add_genus t.d_Book_add_genus ["self", "word", "day"] (sp_Book_add_genus t) := by
  have G1 := ok_is_genus_word (P := P) (w := w) (base := base) T
  have G2 := ok_Genus_init (P := P) (w := w) (base := base) T
  refine T.h_Book_add_genus.F.ok sc_Book_add_genus (fun vs H Q E h => ?_) (fun cdv A outer s0 H vs Q E hr h => ?_)
  · obtain ⟨L, s, wa, ns, d, rfl, _⟩ := h
    rfl
  · obtain ⟨L, s, wa, ns, d, rfl, B, W, hw, hn, hz, k⟩ := h
    obtain ⟨k1, c1⟩ := T.c_LAST_DAY
    obtain ⟨k2, c2⟩ := T.c_WRONG
    obtain ⟨k3, c3⟩ := T.c_MOST_GENERA
    obtain ⟨k4, c4⟩ := T.c_FULL
    refine ⟨_, pss_cons (ps_if (PW.pt (pw_or (pt_not (pt_val (pe_call G1 hr rfl T.h_is_genus_word.m T.h_is_genus_word.F.kp T.h_is_genus_word.b .nil pass0 (pa_cons (pv 1) pa_nil))))
        (pw_or1 (pt_cmpR op_gt (pv 2) (pe_glob rfl c1 (v := .int 1048576) ⟨k1, rfl⟩) (nobehind _ (by decide) (by decide)))))) (pss_one (ps_ret (pe_glob rfl c2 (v := .int (-22)) ⟨k2, rfl⟩))) pss_nil)
      (pss_cons (ps_if (pt_cmpR op_ge (pe_callB call_len_seq rfl T.b_len PySem.boot_len (pa_cons (pe_fld (pv 0) rfl) pa_nil)) (pe_glob rfl c3 (v := .int 256) ⟨k3, rfl⟩) (nobehind _ (by decide) (by decide)))
        (pss_one (ps_ret (pe_glob rfl c4 (v := .int (-28)) ⟨k4, rfl⟩))) pss_nil)
      (pss_cons (ps_expr (pe_bm PySem.F.plainAttrs_list PySem.F.slot_list_append PySem.F.type_list_append mt_append (pe_fld (pv 0) rfl)
        (pa_cons (pe_make T.mk_Genus G2 (hr.mono (by decide)) rfl T.mg_Genus T.h_Genus_init.b .nil pass0 (pa_cons (pv 1) (pa_cons (pv 2) pa_nil))) pa_nil)))
      (pss_one (ps_ret (pe_op op_sub (pe_callB call_len_seq rfl T.b_len PySem.boot_len (pa_cons (pe_fld (pv 0) rfl) pa_nil)) pe_int))))), ?_⟩
    have eg := isGreat_nats hn
    refine ⟨_, rfl, wa, ns, rfl, SqT.of hw, hz, fun H1 s1 => ⟨_, rfl, ?_⟩⟩
    have B1 := B.same s1
    obtain ⟨db, hb⟩ := B1.bk
    have bad : (Kct4.isGreat (nats ns) = false ∨ Kct4.DAYS < d) → Q (.int (-22)) H1 := fun c => k L H1 s (-22) (by
      show (if Kct4.isGreat (nats ns) = false ∨ Kct4.DAYS < d then _ else _) = _
      rw [if_pos c]) B1 (Ext.refl _ s1)
    cases e : isGreatZ ns with
    | false =>
      refine iteT (iteT ?_)
      exact bad (.inl (eg.trans e))
    | true =>
      refine iteF ⟨_, rfl, _, _, rfl, rfl, _, rfl, ?_⟩
      rw [show decide ((1048576 : Int) < (d : Int)) = decide (1048576 < d) from lt_nat]
      refine ite2 (fun hd => ?_) (fun hd => ?_)
      · exact bad (.inr (of_decide_eq_true hd))
      have hd' : ¬ 1048576 < d := fun z => hd (decide_eq_true z)
      have c0 : ¬ (Kct4.isGreat (nats ns) = false ∨ Kct4.DAYS < d) := by
        rintro (z | z)
        · rw [eg, e] at z; cases z
        · exact hd' z
      refine ⟨_, rfl, _, _, db, _, _, rfl, hb, T.cl_Book, T.n_Book_genera, bk_gen L, _, _, rfl, .inl (SqL.of B1.lg), _, _, rfl, rfl, _, rfl, ?_⟩
      rw [List.length_map, B1.gl, show decide ((256 : Int) ≤ (s.genera.length : Int)) = decide (256 ≤ s.genera.length) from le_nat]
      refine ite2 (fun hf => ?_) (fun hf => ?_)
      · refine k L H1 s (-28) ?_ B1 (Ext.refl _ s1)
        show (if Kct4.isGreat (nats ns) = false ∨ Kct4.DAYS < d then _ else if Kct4.GENERA ≤ s.genera.length then _ else _) = _
        rw [if_neg c0, if_pos (show Kct4.GENERA ≤ s.genera.length from of_decide_eq_true hf)]
      have hf' : ¬ 256 ≤ s.genera.length := fun z => hf (decide_eq_true z)
      refine ⟨_, rfl, _, _, db, _, _, rfl, hb, T.cl_Book, T.n_Book_genera, bk_gen L, .inl ⟨rfl, _, SqL.of B1.lg⟩, _, rfl, _, rfl, fun x dx nx ndx nex => ?_⟩
      have hlx : L.lg ≠ x := ne_of_none B1.lg nx
      have hlx2 : L.lg ≠ dx := ne_of_none B1.lg ndx
      refine ⟨x, dx, wa, d, rfl, upd_same, fun wd => ⟨rfl, L.lg, _, _, rfl, rfl, (upd_ne hlx).trans ((upd_ne hlx).trans ((upd_ne hlx2).trans B1.lg)), ?_, ?_⟩⟩
      · rw [List.length_map, B1.gl]
        exact line_of_small (by have := W.gl; omega)
      have hk : ∀ p o, H1 p = some o → p ≠ L.lg → (upd (upd (upd (upd H1 dx (.own x)) x (.ins t.C_Genus dx [])) x (.ins t.C_Genus dx (genF wa ⟨wd, d, none, .no⟩))) L.lg (.lst ((L.gs.map fun p => V.ref p.1) ++ [.ref x]))) p = some o := fun p o ep ne => by
        rw [upd_ne ne, upd_ne (ne_of_none ep nx), upd_ne (ne_of_none ep nx), upd_ne (ne_of_none ep ndx)]
        exact ep
      have hb2 := hk _ _ hb (ne_of hb B1.lg (by intro z; cases z))
      have hw1 : H1 wa = some (.tup (wordV (nats ns))) := by rw [wordV_nats hn]; exact s1 _ _ hw
      have B2 := B1.addG (g := ⟨nats ns, d, none, .no⟩) (dx := dx) hw1 nx hk ((upd_ne (Ne.symm hlx)).trans upd_same) (upd_same.trans (by rw [List.map_append]; rfl))
      refine ⟨_, rfl, _, _, db, _, _, rfl, hb2, T.cl_Book, T.n_Book_genera, bk_gen L, _, _, rfl, .inl (SqL.of upd_same), _, _, rfl, rfl, ?_⟩
      have ev : (((L.gs.map fun p => V.ref p.1) ++ [V.ref x]).length : Int) - 1 = (s.genera.length : Int) := by
        rw [List.length_append, List.length_map, B1.gl]
        show ((s.genera.length + 1 : Nat) : Int) - 1 = _
        omega
      show Q (.int ((((L.gs.map fun p => V.ref p.1) ++ [V.ref x]).length : Int) - 1)) _
      rw [ev]
      refine k _ _ _ _ ?_ B2 ?_
      · show (if Kct4.isGreat (nats ns) = false ∨ Kct4.DAYS < d then _ else if Kct4.GENERA ≤ s.genera.length then _ else _) = _
        rw [if_neg c0, if_neg (show ¬ Kct4.GENERA ≤ s.genera.length from hf')]
      · refine Ext.before s1 ⟨rfl, ?_, fun p o ep np => hk p o ep fun z => np (.inr (.inl z)), fun p o ep => ?_⟩
        · rintro p (z | z | z | z | ⟨q, hq, z⟩ | z | z)
          · exact .inl (.inl z)
          · exact .inl (.inr (.inl z))
          · exact .inl (.inr (.inr (.inl z)))
          · exact .inl (.inr (.inr (.inr (.inl z))))
          · rcases List.mem_append.mp hq with m | m
            · exact .inl (.inr (.inr (.inr (.inr (.inl ⟨q, m, z⟩)))))
            · rw [List.mem_singleton.mp m] at z
              rcases z with z | z
              · exact .inr (.inl (by rw [z]; exact nx))
              · exact .inr (.inr z)
          · exact .inl (.inr (.inr (.inr (.inr (.inr (.inl z))))))
          · exact .inl (.inr (.inr (.inr (.inr (.inr (.inr z))))))
        · by_cases z : p = L.lg
          · rw [z]; exact ⟨_, upd_same⟩
          · exact ⟨o, hk p o ep z⟩
end
end Ns
end
section
set_option Elab.async false
set_option linter.all false
set_option maxRecDepth 100000
set_option maxHeartbeats 2000000
namespace Ns
open PySem PySem.Spec PyProof.Rows L2
open PySem.W (Codec)
open Kct4 (Abs Genus Species Ruled Call)
def wordD (w : List Nat) : PyData := .tuple (w.map fun (n : Nat) => PyData.int (n : Int))
theorem wordD_all {K : PySem.W.Frag} {H : Hp} : ∀ w : List Nat, DpAll K H (wordV w) (w.map fun (n : Nat) => PyData.int (n : Int))
  | [] => .nil
  | n :: r => .cons (.int (n : Int)) (wordD_all r)
theorem wordD_lay : ∀ w : List Nat, PyData.canLayAll0 (w.map fun (n : Nat) => PyData.int (n : Int)) = true
  | [] => by simp [PyData.canLayAll0]
  | n :: r => by
    have h := wordD_lay r
    simp only [List.map_cons, PyData.canLayAll0, PyData.canLay0, Bool.true_and]
    exact h
theorem wordD_depth : ∀ w : List Nat, PyData.depthAll (w.map fun (n : Nat) => PyData.int (n : Int)) = 0
  | [] => by simp [PyData.depthAll]
  | n :: r => by
    have h := wordD_depth r
    simp only [List.map_cons, PyData.depthAll, PyData.depth]
    rw [h]
    rfl
theorem wordD_shaped (w : List Nat) : SeqAt.shaped (wordD w) = true := by
  unfold SeqAt.shaped wordD
  have h1 : PyData.canLay0 (.tuple (w.map fun (n : Nat) => PyData.int (n : Int))) = true := by
    unfold PyData.canLay0
    exact wordD_lay w
  have h2 : PyData.depth (.tuple (w.map fun (n : Nat) => PyData.int (n : Int))) = 1 := by
    unfold PyData.depth
    rw [wordD_depth]
  rw [h1, h2]
  rfl
theorem wordD_eqvAll : ∀ w v : List Nat, PyData.eqvAll (w.map fun (n : Nat) => PyData.int (n : Int)) (v.map fun (n : Nat) => PyData.int (n : Int)) = decide (w = v)
  | [], [] => by simp [PyData.eqvAll]
  | [], _ :: _ => by simp [PyData.eqvAll]
  | _ :: _, [] => by simp [PyData.eqvAll]
  | n :: r, m :: q => by
    have h := wordD_eqvAll r q
    simp only [List.map_cons, PyData.eqvAll, PyData.eqv]
    rw [h]
    by_cases e : n = m
    · subst e
      by_cases e2 : r = q
      · subst e2
        simp
      · simp [e2]
    · have e' : ¬ (n : Int) = (m : Int) := by omega
      simp [e, e']
theorem wordD_eqv (w v : List Nat) : PyData.eqv (wordD w) (wordD v) = decide (w = v) := by
  unfold wordD PyData.eqv
  exact wordD_eqvAll w v
def rNeW (K : PySem.W.Frag) : R2 := fun x y H Q => ∃ (a b : Addr) (u v : List Nat), x = .ref a ∧ y = .ref b ∧ SqT K H a (wordV u) ∧ SqT K H b (wordV v) ∧ Q (.bl (!decide (u = v))) H
theorem op_neW {X : Cx} (hu : X.A.units + 64 < cLine) : OpR X (compareOp .NotEq) (rNeW X.K) := by
  intro pins s σ H x y v u Q I rx ry h
  obtain ⟨a, b, p, q, rfl, rfl, h1, h2, k⟩ := h
  exact op_neD hu pins s σ H _ _ v u Q I rx ry ⟨wordD p, wordD q, .tup h1 (wordD_all p), .tup h2 (wordD_all q), wordD_shaped p, wordD_shaped q, by rw [wordD_eqv]; exact k⟩
section
variable {P : Program} {w : World} {K : PySem.W.Frag} {mg : Str → Option Value} {base : Heap} {t : Adr}
theorem BookAt.genRef {H : Hp} {L : BL} {s : Abs} (B : BookAt t H L s) {i : Nat} {x : Genus} (h : s.genera[i]? = some x) : ∃ p dx, L.gs[i]? = some p ∧ (L.gs.map fun p => V.ref p.1)[i]? = some (.ref p.1) ∧ H p.1 = some (.ins t.C_Genus dx (genF p.2 x)) ∧ H p.2 = some (.tup (wordV x.word)) := by
  have hi : i < L.gs.length := by rw [B.gl]; exact (List.getElem?_eq_some_iff.mp h).1
  have e := List.getElem?_eq_getElem hi
  obtain ⟨⟨dx, e1⟩, e2⟩ := B.gat i _ x e h
  exact ⟨L.gs[i], dx, e, by rw [List.getElem?_map, e]; rfl, e1, e2⟩
theorem BookAt.spcRef {H : Hp} {L : BL} {s : Abs} (B : BookAt t H L s) {i : Nat} {x : Species} (h : s.species[i]? = some x) : ∃ p dx, L.ss[i]? = some p ∧ (L.ss.map fun p => V.ref p.1)[i]? = some (.ref p.1) ∧ H p.1 = some (.ins t.C_Species dx (spcF p.2 x)) ∧ H p.2 = some (.tup (wordV x.word)) := by
  have hi : i < L.ss.length := by rw [B.sl]; exact (List.getElem?_eq_some_iff.mp h).1
  have e := List.getElem?_eq_getElem hi
  obtain ⟨⟨dx, e1⟩, e2⟩ := B.sat i _ x e h
  exact ⟨L.ss[i], dx, e, by rw [List.getElem?_map, e]; rfl, e1, e2⟩
theorem BookAt.setG {H : Hp} {L : BL} {s : Abs} (B : BookAt t H L s) {i : Nat} {p : Addr × Addr} {x y : Genus} {dx : Addr} (hp : L.gs[i]? = some p) (hx : s.genera[i]? = some x) (ho : H p.1 = some (.ins t.C_Genus dx (genF p.2 x))) (hw : y.word = x.word) :
    BookAt t (upd H p.1 (.ins t.C_Genus dx (genF p.2 y))) L { s with genera := s.genera.set i y } := by
  obtain ⟨db, hb⟩ := B.bk
  have nb : L.b ≠ p.1 := ne_of hb ho (by intro z; injection z with _ _ z; cases z)
  have lst : ∀ {a : Addr} {xs : List V}, H a = some (.lst xs) → a ≠ p.1 := fun h => ne_of h ho (by intro z; cases z)
  have tup : ∀ {a : Addr} {xs : List V}, H a = some (.tup xs) → a ≠ p.1 := fun h => ne_of h ho (by intro z; cases z)
  refine ⟨⟨db, (upd_ne nb).trans hb⟩, (upd_ne (lst B.lg)).trans B.lg, (upd_ne (lst B.ls)).trans B.ls, (upd_ne (lst B.lk)).trans B.lk, (upd_ne (lst B.lo)).trans B.lo, B.ngs, B.ngk, B.nsk, B.ngo, B.nso, B.nko, ?_, B.sl, fun j q z h1 h2 => ?_, fun j q z h1 h2 => ?_, B.gnd, B.snd⟩
  · show L.gs.length = (s.genera.set i y).length
    rw [List.length_set]; exact B.gl
  · have h2 : (s.genera.set i y)[j]? = some z := h2
    by_cases hj : i = j
    · subst hj
      have e : p = q := Option.some.inj (hp.symm.trans h1)
      subst e
      have hi : i < s.genera.length := (List.getElem?_eq_some_iff.mp hx).1
      rw [List.getElem?_set_self hi] at h2
      have e2 : y = z := Option.some.inj h2
      subst e2
      obtain ⟨_, e3⟩ := B.gat i p x hp hx
      exact ⟨⟨dx, upd_same⟩, (upd_ne (tup e3)).trans (by rw [hw]; exact e3)⟩
    · rw [List.getElem?_set_ne hj] at h2
      obtain ⟨⟨dy, e1⟩, e2⟩ := B.gat j q z h1 h2
      have ne : q.1 ≠ p.1 := fun e => hj (nd_ix B.gnd (x := p.1) (by rw [List.getElem?_map, hp]; rfl) (by rw [List.getElem?_map, h1, ← e]; rfl))
      exact ⟨⟨dy, (upd_ne ne).trans e1⟩, (upd_ne (tup e2)).trans e2⟩
  · obtain ⟨⟨dy, e1⟩, e2⟩ := B.sat j q z h1 h2
    have ne : q.1 ≠ p.1 := ne_of e1 ho (by intro z; injection z with _ _ z; cases z)
    exact ⟨⟨dy, (upd_ne ne).trans e1⟩, (upd_ne (tup e2)).trans e2⟩
theorem BookAt.setS {H : Hp} {L : BL} {s : Abs} (B : BookAt t H L s) {i : Nat} {p : Addr × Addr} {x y : Species} {dx : Addr} (hp : L.ss[i]? = some p) (hx : s.species[i]? = some x) (ho : H p.1 = some (.ins t.C_Species dx (spcF p.2 x))) (hw : y.word = x.word) :
    BookAt t (upd H p.1 (.ins t.C_Species dx (spcF p.2 y))) L { s with species := s.species.set i y } := by
  obtain ⟨db, hb⟩ := B.bk
  have nb : L.b ≠ p.1 := ne_of hb ho (by intro z; injection z with _ _ z; cases z)
  have lst : ∀ {a : Addr} {xs : List V}, H a = some (.lst xs) → a ≠ p.1 := fun h => ne_of h ho (by intro z; cases z)
  have tup : ∀ {a : Addr} {xs : List V}, H a = some (.tup xs) → a ≠ p.1 := fun h => ne_of h ho (by intro z; cases z)
  refine ⟨⟨db, (upd_ne nb).trans hb⟩, (upd_ne (lst B.lg)).trans B.lg, (upd_ne (lst B.ls)).trans B.ls, (upd_ne (lst B.lk)).trans B.lk, (upd_ne (lst B.lo)).trans B.lo, B.ngs, B.ngk, B.nsk, B.ngo, B.nso, B.nko, B.gl, ?_, fun j q z h1 h2 => ?_, fun j q z h1 h2 => ?_, B.gnd, B.snd⟩
  · show L.ss.length = (s.species.set i y).length
    rw [List.length_set]; exact B.sl
  · obtain ⟨⟨dy, e1⟩, e2⟩ := B.gat j q z h1 h2
    have ne : q.1 ≠ p.1 := ne_of e1 ho (by intro z; injection z with _ _ z; cases z)
    exact ⟨⟨dy, (upd_ne ne).trans e1⟩, (upd_ne (tup e2)).trans e2⟩
  · have h2 : (s.species.set i y)[j]? = some z := h2
    by_cases hj : i = j
    · subst hj
      have e : p = q := Option.some.inj (hp.symm.trans h1)
      subst e
      have hi : i < s.species.length := (List.getElem?_eq_some_iff.mp hx).1
      rw [List.getElem?_set_self hi] at h2
      have e2 : y = z := Option.some.inj h2
      subst e2
      obtain ⟨_, e3⟩ := B.sat i p x hp hx
      exact ⟨⟨dx, upd_same⟩, (upd_ne (tup e3)).trans (by rw [hw]; exact e3)⟩
    · rw [List.getElem?_set_ne hj] at h2
      obtain ⟨⟨dy, e1⟩, e2⟩ := B.sat j q z h1 h2
      have ne : q.1 ≠ p.1 := fun e => hj (nd_ix B.snd (x := p.1) (by rw [List.getElem?_map, hp]; rfl) (by rw [List.getElem?_map, h1, ← e]; rfl))
      exact ⟨⟨dy, (upd_ne ne).trans e1⟩, (upd_ne (tup e2)).trans e2⟩
theorem BookAt.setK {H : Hp} {L : BL} {s : Abs} (B : BookAt t H L s) (i : Nat) (k : Option Nat) : BookAt t (upd H L.lk (.lst ((s.kindOf.map encK).set i (encK k)))) L { s with kindOf := s.kindOf.set i k } := by
  obtain ⟨db, hb⟩ := B.bk
  have ins : ∀ {a C dx : Addr} {fs : List (Str × V)}, H a = some (.ins C dx fs) → a ≠ L.lk := fun h => ne_of h B.lk (by intro z; cases z)
  have tup : ∀ {a : Addr} {xs : List V}, H a = some (.tup xs) → a ≠ L.lk := fun h => ne_of h B.lk (by intro z; cases z)
  refine ⟨⟨db, (upd_ne (ins hb)).trans hb⟩, (upd_ne B.ngk).trans B.lg, (upd_ne B.nsk).trans B.ls, ?_, (upd_ne (Ne.symm B.nko)).trans B.lo, B.ngs, B.ngk, B.nsk, B.ngo, B.nso, B.nko, B.gl, B.sl, fun j q z h1 h2 => ?_, fun j q z h1 h2 => ?_, B.gnd, B.snd⟩
  · show upd H L.lk _ L.lk = some (.lst ((s.kindOf.set i k).map encK))
    rw [upd_same, List.map_set]
  · obtain ⟨⟨dy, e1⟩, e2⟩ := B.gat j q z h1 h2
    exact ⟨⟨dy, (upd_ne (ins e1)).trans e1⟩, (upd_ne (tup e2)).trans e2⟩
  · obtain ⟨⟨dy, e1⟩, e2⟩ := B.sat j q z h1 h2
    exact ⟨⟨dy, (upd_ne (ins e1)).trans e1⟩, (upd_ne (tup e2)).trans e2⟩
theorem BookAt.setO {H : Hp} {L : BL} {s : Abs} (B : BookAt t H L s) (i : Nat) (k : Option Nat) : BookAt t (upd H L.lo (.lst ((s.groupOf.map encG).set i (encG k)))) L { s with groupOf := s.groupOf.set i k } := by
  obtain ⟨db, hb⟩ := B.bk
  have ins : ∀ {a C dx : Addr} {fs : List (Str × V)}, H a = some (.ins C dx fs) → a ≠ L.lo := fun h => ne_of h B.lo (by intro z; cases z)
  have tup : ∀ {a : Addr} {xs : List V}, H a = some (.tup xs) → a ≠ L.lo := fun h => ne_of h B.lo (by intro z; cases z)
  refine ⟨⟨db, (upd_ne (ins hb)).trans hb⟩, (upd_ne B.ngo).trans B.lg, (upd_ne B.nso).trans B.ls, (upd_ne B.nko).trans B.lk, ?_, B.ngs, B.ngk, B.nsk, B.ngo, B.nso, B.nko, B.gl, B.sl, fun j q z h1 h2 => ?_, fun j q z h1 h2 => ?_, B.gnd, B.snd⟩
  · show upd H L.lo _ L.lo = some (.lst ((s.groupOf.set i k).map encG))
    rw [upd_same, List.map_set]
  · obtain ⟨⟨dy, e1⟩, e2⟩ := B.gat j q z h1 h2
    exact ⟨⟨dy, (upd_ne (ins e1)).trans e1⟩, (upd_ne (tup e2)).trans e2⟩
  · obtain ⟨⟨dy, e1⟩, e2⟩ := B.sat j q z h1 h2
    exact ⟨⟨dy, (upd_ne (ins e1)).trans e1⟩, (upd_ne (tup e2)).trans e2⟩
theorem Ext.write {H : Hp} {L : BL} {a : Addr} {o : HO} (more : Addr → Prop) (h : L.In a) : Ext H (upd H a o) L L more :=
  ⟨rfl, fun p z => .inl z, fun p u e n => (upd_ne fun (z : p = a) => n (by rw [z]; exact h)).trans e, fun p u e => by
    by_cases z : p = a
    · rw [z]; exact ⟨_, upd_same⟩
    · exact ⟨u, (upd_ne z).trans e⟩⟩
end
end Ns
end
section
set_option Elab.async false
set_option linter.all false
set_option maxRecDepth 100000
set_option maxHeartbeats 2000000
namespace Ns
open PySem PySem.Spec PyProof.Rows L2
open PySem.W (Codec)
open Kct4 (Abs Genus Species Ruled Call)
section
variable {P : Program} {w : World} {K : PySem.W.Frag} {mg : Str → Option Value} {base : Heap} {t : Adr}
def sp_Book_add_species (t : Adr) : Sp := fun vs H Q _ => ∃ (L : BL) (s : Abs) (wa : Addr) (ns : List Int) (g d ty : Nat), vs = [.ref L.b, .int (g : Int), .ref wa, .int (d : Int), .int (ty : Int)] ∧ BookAt t H L s ∧ Wf s ∧ H wa = some (.tup (ns.map V.int)) ∧
  (∀ z ∈ ns, 0 ≤ z) ∧ ns.length ≤ sizeLine ∧ Then t H L s (.species g (nats ns) d ty) (· = wa) Q
theorem ok_Book_add_species (T : Txt K mg t) : FnOk P w K mg base CX0 4 t.f_Book_add_species t.d_Book_add_species ["self", "genus", "word", "day", "specimen"] (sp_Book_add_species t) := by
  have G1 := ok_is_species_word (P := P) (w := w) (base := base) T
  have G2 := ok_Species_init (P := P) (w := w) (base := base) T
  refine T.h_Book_add_species.F.ok sc_Book_add_species (fun vs H Q E h => ?_) (fun cdv A outer s0 H vs Q E hr h => ?_)
  · obtain ⟨L, s, wa, ns, g, d, ty, rfl, _⟩ := h
    rfl
  · obtain ⟨L, s, wa, ns, g, d, ty, rfl, B, W, hw, hn, hz, k⟩ := h
    obtain ⟨k1, c1⟩ := T.c_LAST_DAY
    obtain ⟨k2, c2⟩ := T.c_WRONG
    obtain ⟨k3, c3⟩ := T.c_MOST_SPECIES
    obtain ⟨k4, c4⟩ := T.c_FULL
    obtain ⟨k5, c5⟩ := T.c_SPECIMENS
    obtain ⟨k6, c6⟩ := T.c_MISSING
    refine ⟨_, pss_cons (ps_if (PW.pt (pw_or (pt_not (pt_val (pe_call G1 hr rfl T.h_is_species_word.m T.h_is_species_word.F.kp T.h_is_species_word.b .nil pass0 (pa_cons (pv 2) pa_nil))))
        (pw_or (pt_cmpR op_gt (pv 3) (pe_glob rfl c1 (v := .int 1048576) ⟨k1, rfl⟩) (nobehind _ (by decide) (by decide)))
        (pw_or1 (pt_cmpR op_ge (pv 4) (pe_glob rfl c5 (v := .int 1024) ⟨k5, rfl⟩) (nobehind _ (by decide) (by decide))))))) (pss_one (ps_ret (pe_glob rfl c2 (v := .int (-22)) ⟨k2, rfl⟩))) pss_nil)
      (pss_cons (ps_if (pt_cmpR op_ge (pv 1) (pe_callB call_len_seq rfl T.b_len PySem.boot_len (pa_cons (pe_fld (pv 0) rfl) pa_nil)) (nobehind _ (by decide) (by decide)))
        (pss_one (ps_ret (pe_glob rfl c6 (v := .int (-2)) ⟨k6, rfl⟩))) pss_nil)
      (pss_cons (ps_if (pt_cmpR op_ge (pe_callB call_len_seq rfl T.b_len PySem.boot_len (pa_cons (pe_fld (pv 0) rfl) pa_nil)) (pe_glob rfl c3 (v := .int 1024) ⟨k3, rfl⟩) (nobehind _ (by decide) (by decide)))
        (pss_one (ps_ret (pe_glob rfl c4 (v := .int (-28)) ⟨k4, rfl⟩))) pss_nil)
      (pss_cons (ps_expr (pe_bm PySem.F.plainAttrs_list PySem.F.slot_list_append PySem.F.type_list_append mt_append (pe_fld (pv 0) rfl)
        (pa_cons (pe_make T.mk_Species G2 (hr.mono (by decide)) rfl T.mg_Species T.h_Species_init.b .nil pass0 (pa_cons (pv 1) (pa_cons (pv 2) (pa_cons (pv 3) (pa_cons (pv 4) pa_nil))))) pa_nil)))
      (pss_one (ps_ret (pe_op op_sub (pe_callB call_len_seq rfl T.b_len PySem.boot_len (pa_cons (pe_fld (pv 0) rfl) pa_nil)) pe_int)))))), ?_⟩
    have eg := isWord_nats hn
    refine ⟨_, rfl, wa, ns, rfl, SqT.of hw, hz, fun H1 s1 => ⟨_, rfl, ?_⟩⟩
    have B1 := B.same s1
    obtain ⟨db, hb⟩ := B1.bk
    have bad : (Kct4.isWord (nats ns) = false ∨ Kct4.DAYS < d ∨ Kct4.SPECIMENS ≤ ty) → Q (.int (-22)) H1 := fun c => k L H1 s (-22) (by
      show (if Kct4.isWord (nats ns) = false ∨ Kct4.DAYS < d ∨ Kct4.SPECIMENS ≤ ty then _ else _) = _
      rw [if_pos c]) B1 (Ext.refl _ s1)
    cases e : isWordZ ns with
    | false =>
      refine iteT (iteT ?_)
      exact bad (.inl (eg.trans e))
    | true =>
      refine iteF ⟨_, rfl, _, _, rfl, rfl, _, rfl, ?_⟩
      rw [show decide ((1048576 : Int) < (d : Int)) = decide (1048576 < d) from lt_nat]
      refine ite2 (fun hd => iteT ?_) (fun hd => ?_)
      · exact bad (.inr (.inl (of_decide_eq_true hd)))
      have hd' : ¬ 1048576 < d := fun z => hd (decide_eq_true z)
      refine ⟨_, rfl, _, _, rfl, rfl, _, rfl, ?_⟩
      rw [show decide ((1024 : Int) ≤ (ty : Int)) = decide (1024 ≤ ty) from le_nat]
      refine ite2 (fun ht => ?_) (fun ht => ?_)
      · exact bad (.inr (.inr (of_decide_eq_true ht)))
      have ht' : ¬ 1024 ≤ ty := fun z => ht (decide_eq_true z)
      have c0 : ¬ (Kct4.isWord (nats ns) = false ∨ Kct4.DAYS < d ∨ Kct4.SPECIMENS ≤ ty) := by
        rintro (z | z | z)
        · rw [eg, e] at z; cases z
        · exact hd' z
        · exact ht' z
      refine ⟨_, rfl, _, rfl, _, _, db, _, _, rfl, hb, T.cl_Book, T.n_Book_genera, bk_gen L, _, _, rfl, .inl (SqL.of B1.lg), _, _, rfl, rfl, _, rfl, ?_⟩
      rw [List.length_map, B1.gl, show decide ((s.genera.length : Int) ≤ (g : Int)) = decide (s.genera.length ≤ g) from le_nat]
      refine ite2 (fun hg => ?_) (fun hg => ?_)
      · refine k L H1 s (-2) ?_ B1 (Ext.refl _ s1)
        show (if Kct4.isWord (nats ns) = false ∨ Kct4.DAYS < d ∨ Kct4.SPECIMENS ≤ ty then _ else if s.genera.length ≤ g then _ else _) = _
        rw [if_neg c0, if_pos (of_decide_eq_true hg)]
      have hg' : ¬ s.genera.length ≤ g := fun z => hg (decide_eq_true z)
      refine ⟨_, rfl, _, _, db, _, _, rfl, hb, T.cl_Book, T.n_Book_species, bk_spc L, _, _, rfl, .inl (SqL.of B1.ls), _, _, rfl, rfl, _, rfl, ?_⟩
      rw [List.length_map, B1.sl, show decide ((1024 : Int) ≤ (s.species.length : Int)) = decide (1024 ≤ s.species.length) from le_nat]
      refine ite2 (fun hf => ?_) (fun hf => ?_)
      · refine k L H1 s (-28) ?_ B1 (Ext.refl _ s1)
        show (if Kct4.isWord (nats ns) = false ∨ Kct4.DAYS < d ∨ Kct4.SPECIMENS ≤ ty then _ else if s.genera.length ≤ g then _ else if Kct4.SPECIES ≤ s.species.length then _ else _) = _
        rw [if_neg c0, if_neg hg', if_pos (show Kct4.SPECIES ≤ s.species.length from of_decide_eq_true hf)]
      have hf' : ¬ 1024 ≤ s.species.length := fun z => hf (decide_eq_true z)
      refine ⟨_, rfl, _, _, db, _, _, rfl, hb, T.cl_Book, T.n_Book_species, bk_spc L, .inl ⟨rfl, _, SqL.of B1.ls⟩, _, rfl, _, rfl, _, rfl, _, rfl, fun x dx nx ndx nex => ?_⟩
      have hlx : L.ls ≠ x := ne_of_none B1.ls nx
      have hlx2 : L.ls ≠ dx := ne_of_none B1.ls ndx
      refine ⟨x, dx, wa, g, d, ty, rfl, upd_same, fun wd => ⟨rfl, L.ls, _, _, rfl, rfl, (upd_ne hlx).trans ((upd_ne hlx).trans ((upd_ne hlx2).trans B1.ls)), ?_, ?_⟩⟩
      · rw [List.length_map, B1.sl]
        exact line_of_small (by have := W.sl; omega)
      have hk : ∀ p o, H1 p = some o → p ≠ L.ls → (upd (upd (upd (upd H1 dx (.own x)) x (.ins t.C_Species dx [])) x (.ins t.C_Species dx (spcF wa ⟨g, wd, d, ty, .no⟩))) L.ls (.lst ((L.ss.map fun p => V.ref p.1) ++ [.ref x]))) p = some o := fun p o ep ne => by
        rw [upd_ne ne, upd_ne (ne_of_none ep nx), upd_ne (ne_of_none ep nx), upd_ne (ne_of_none ep ndx)]
        exact ep
      have hb2 := hk _ _ hb (ne_of hb B1.ls (by intro z; cases z))
      have hw1 : H1 wa = some (.tup (wordV (nats ns))) := by rw [wordV_nats hn]; exact s1 _ _ hw
      have B2 := B1.addS (g := ⟨g, nats ns, d, ty, .no⟩) (dx := dx) hw1 nx hk ((upd_ne (Ne.symm hlx)).trans upd_same) (upd_same.trans (by rw [List.map_append]; rfl))
      refine ⟨_, rfl, _, _, db, _, _, rfl, hb2, T.cl_Book, T.n_Book_species, bk_spc L, _, _, rfl, .inl (SqL.of upd_same), _, _, rfl, rfl, ?_⟩
      have ev : (((L.ss.map fun p => V.ref p.1) ++ [V.ref x]).length : Int) - 1 = (s.species.length : Int) := by
        rw [List.length_append, List.length_map, B1.sl]
        show ((s.species.length + 1 : Nat) : Int) - 1 = _
        omega
      show Q (.int ((((L.ss.map fun p => V.ref p.1) ++ [V.ref x]).length : Int) - 1)) _
      rw [ev]
      refine k _ _ _ _ ?_ B2 ?_
      · show (if Kct4.isWord (nats ns) = false ∨ Kct4.DAYS < d ∨ Kct4.SPECIMENS ≤ ty then _ else if s.genera.length ≤ g then _ else if Kct4.SPECIES ≤ s.species.length then _ else _) = _
        rw [if_neg c0, if_neg hg', if_neg (show ¬ Kct4.SPECIES ≤ s.species.length from hf')]
      · refine Ext.before s1 ⟨rfl, ?_, fun p o ep np => hk p o ep fun z => np (.inr (.inr (.inl z))), fun p o ep => ?_⟩
        · rintro p (z | z | z | z | z | ⟨q, hq, z⟩ | z)
          · exact .inl (.inl z)
          · exact .inl (.inr (.inl z))
          · exact .inl (.inr (.inr (.inl z)))
          · exact .inl (.inr (.inr (.inr (.inl z))))
          · exact .inl (.inr (.inr (.inr (.inr (.inl z)))))
          · rcases List.mem_append.mp hq with m | m
            · exact .inl (.inr (.inr (.inr (.inr (.inr (.inl ⟨q, m, z⟩))))))
            · rw [List.mem_singleton.mp m] at z
              rcases z with z | z
              · exact .inr (.inl (by rw [z]; exact nx))
              · exact .inr (.inr z)
          · exact .inl (.inr (.inr (.inr (.inr (.inr (.inr z))))))
        · by_cases z : p = L.ls
          · rw [z]; exact ⟨_, upd_same⟩
          · exact ⟨o, hk p o ep z⟩
theorem gf_word (a : Addr) (x : Genus) : (genF a x).lookup ("word" : Str) = some (.ref a) := rfl
theorem gf_day (a : Addr) (x : Genus) : (genF a x).lookup ("day" : Str) = some (.int (x.day : Int)) := rfl
theorem gf_anchor (a : Addr) (x : Genus) : (genF a x).lookup ("anchor" : Str) = some (typV x.type_) := rfl
theorem gf_ruling (a : Addr) (x : Genus) : (genF a x).lookup ("ruling" : Str) = some (.int (rulN x.ruled : Int)) := rfl
theorem sf_genus (a : Addr) (x : Species) : (spcF a x).lookup ("genus" : Str) = some (.int (x.genus : Int)) := rfl
theorem sf_word (a : Addr) (x : Species) : (spcF a x).lookup ("word" : Str) = some (.ref a) := rfl
theorem sf_day (a : Addr) (x : Species) : (spcF a x).lookup ("day" : Str) = some (.int (x.day : Int)) := rfl
theorem sf_specimen (a : Addr) (x : Species) : (spcF a x).lookup ("specimen" : Str) = some (.int (x.type_ : Int)) := rfl
theorem sf_ruling (a : Addr) (x : Species) : (spcF a x).lookup ("ruling" : Str) = some (.int (rulN x.ruled : Int)) := rfl
def sp_Book_birth_word (t : Adr) : Sp := fun vs H Q _ => ∃ (L : BL) (s : Abs) (n : Nat) (y : Species) (x : Genus) (p : Addr × Addr), vs = [.ref L.b, .int (n : Int)] ∧ BookAt t H L s ∧ s.species[n]? = some y ∧ s.genera[y.genus]? = some x ∧ L.gs[y.genus]? = some p ∧ Q (.ref p.2) H
theorem ok_Book_birth_word (T : Txt K mg t) : FnOk P w K mg base CX0 1 t.f_Book_birth_word t.d_Book_birth_word ["self", "species"] (sp_Book_birth_word t) := by
  refine T.h_Book_birth_word.F.ok sc_Book_birth_word (fun vs H Q E h => ?_) (fun cdv A outer s0 H vs Q E hr h => ?_)
  · obtain ⟨L, s, n, y, x, p, rfl, _⟩ := h
    rfl
  · obtain ⟨L, s, n, y, x, p, rfl, B, h1, h2, h3, k⟩ := h
    refine ⟨_, pss_one (ps_ret (pe_fld (pe_ix ix_list (pe_fld (pv 0) rfl) (pe_fld (pe_ix ix_list (pe_fld (pv 0) rfl) (pv 1) (fun _ _ => rfl)) rfl) (fun _ _ => rfl)) rfl)), ?_⟩
    obtain ⟨db, hb⟩ := B.bk
    obtain ⟨q, dq, _, q2, q3, _⟩ := B.spcRef h1
    obtain ⟨p', dp, p1, p2, p3, _⟩ := B.genRef h2
    have e : p' = p := Option.some.inj (p1.symm.trans h3)
    subst e
    refine ⟨_, rfl, _, _, db, _, _, rfl, hb, T.cl_Book, T.n_Book_genera, bk_gen L, _, rfl, _, _, db, _, _, rfl, hb, T.cl_Book, T.n_Book_species, bk_spc L, _, rfl, _, _, _, _, rfl, rfl, SqL.of B.ls, atI_nat q2,
      _, _, dq, _, _, rfl, q3, T.cl_Species, T.n_Species_genus, sf_genus _ _, _, _, _, _, rfl, rfl, SqL.of B.lg, atI_nat p2, _, _, dp, _, _, rfl, p3, T.cl_Genus, T.n_Genus_word, gf_word _ _, k⟩
end
end Ns
end
section
set_option Elab.async false
set_option linter.all false
set_option maxRecDepth 100000
set_option maxHeartbeats 2000000
namespace Ns
open PySem PySem.Spec PyProof.Rows L2
open PySem.W (Codec)
open Kct4 (Abs Genus Species Ruled Call)
section
variable {P : Program} {w : World} {K : PySem.W.Frag} {mg : Str → Option Value} {base : Heap} {t : Adr}
theorem gp_anchor (a : Addr) (x : Genus) (n : Nat) : putF "anchor" (.int (n : Int)) (genF a x) = genF a { x with type_ := some n } := by
  show (if ("word" : Str) = "anchor" then _ else (("word" : Str), V.ref a) :: (if ("day" : Str) = "anchor" then _ else (("day" : Str), V.int (x.day : Int)) :: (if ("anchor" : Str) = "anchor" then _ else _))) = _
  rw [if_neg (by decide), if_neg (by decide), if_pos rfl]
  rfl
theorem gp_ruling (a : Addr) (x : Genus) (r : Ruled) (z : Int) (h : z = (rulN r : Int)) : putF "ruling" (.int z) (genF a x) = genF a { x with ruled := r } := by
  subst h
  show (if ("word" : Str) = "ruling" then _ else (("word" : Str), V.ref a) :: (if ("day" : Str) = "ruling" then _ else (("day" : Str), V.int (x.day : Int)) :: (if ("anchor" : Str) = "ruling" then _ else (("anchor" : Str), typV x.type_) :: (if ("ruling" : Str) = "ruling" then _ else _)))) = _
  rw [if_neg (by decide), if_neg (by decide), if_neg (by decide), if_pos rfl]
  rfl
theorem sp_ruling (a : Addr) (x : Species) (r : Ruled) (z : Int) (h : z = (rulN r : Int)) : putF "ruling" (.int z) (spcF a x) = spcF a { x with ruled := r } := by
  subst h
  show (if ("genus" : Str) = "ruling" then _ else (("genus" : Str), V.int (x.genus : Int)) :: (if ("word" : Str) = "ruling" then _ else (("word" : Str), V.ref a) :: (if ("day" : Str) = "ruling" then _ else (("day" : Str), V.int (x.day : Int)) :: (if ("specimen" : Str) = "ruling" then _ else (("specimen" : Str), V.int (x.type_ : Int)) :: (if ("ruling" : Str) = "ruling" then _ else _))))) = _
  rw [if_neg (by decide), if_neg (by decide), if_neg (by decide), if_neg (by decide), if_pos rfl]
  rfl
def sp_Book_tie_genus (t : Adr) : Sp := fun vs H Q _ => ∃ (L : BL) (s : Abs) (g n : Nat), vs = [.ref L.b, .int (g : Int), .int (n : Int)] ∧ BookAt t H L s ∧ Wf s ∧ Then t H L s (.type_ g n) (fun _ => False) Q
theorem step_type (s : Abs) (g n : Nat) : Kct4.step s (.type_ g n) = match s.genera[g]?, s.species[n]? with
      | some x, some y => if x.type_.isSome then (s, .num (-17)) else if Kct4.genusWord s y.genus ≠ x.word then (s, .num (-1)) else ({ s with genera := s.genera.set g { x with type_ := some n } }, .num 0)
      | _, _ => (s, .num (-2)) := rfl
theorem ok_Book_tie_genus (T : Txt K mg t) : FnOk P w K mg base CX0 2 t.f_Book_tie_genus t.d_Book_tie_genus ["self", "genus", "species"] (sp_Book_tie_genus t) := by
  have G1 := ok_Book_birth_word (P := P) (w := w) (base := base) T
  refine T.h_Book_tie_genus.F.ok sc_Book_tie_genus (fun vs H Q E h => ?_) (fun cdv A outer s0 H vs Q E hr h => ?_)
  · obtain ⟨L, s, g, n, rfl, _⟩ := h
    rfl
  · obtain ⟨L, s, g, n, rfl, B, W, k⟩ := h
    obtain ⟨k1, c1⟩ := T.c_MISSING
    obtain ⟨k2, c2⟩ := T.c_TAKEN
    obtain ⟨k3, c3⟩ := T.c_FOREIGN
    refine ⟨_, pss_cons (ps_if (PW.pt (pw_or (pt_cmpR op_ge (pv 1) (pe_callB call_len_seq rfl T.b_len PySem.boot_len (pa_cons (pe_fld (pv 0) rfl) pa_nil)) (nobehind _ (by decide) (by decide)))
        (pw_or1 (pt_cmpR op_ge (pv 2) (pe_callB call_len_seq rfl T.b_len PySem.boot_len (pa_cons (pe_fld (pv 0) rfl) pa_nil)) (nobehind _ (by decide) (by decide)))))) (pss_one (ps_ret (pe_glob rfl c1 (v := .int (-2)) ⟨k1, rfl⟩))) pss_nil)
      (pss_cons (ps_set (i := 3) sc_Book_tie_genus.nd rfl (Or.inl rfl) (pe_ix ix_list (pe_fld (pv 0) rfl) (pv 1) (fun _ _ => rfl)))
      (pss_cons (ps_if (pt_cmpR op_notN (pe_fld (pv 3) rfl) pe_non (nobehind _ (by decide) (by decide))) (pss_one (ps_ret (pe_glob rfl c2 (v := .int (-17)) ⟨k2, rfl⟩))) pss_nil)
      (pss_cons (ps_if (pt_cmpR (op_neW hr.units) (pe_meth (pv 0) T.cl_Book T.h_Book_birth_word.m G1 hr T.h_Book_birth_word.b .nil pass0 (pa_cons (pv 2) pa_nil)) (pe_fld (pv 3) rfl) (nobehind _ (by decide) (by decide))) (pss_one (ps_ret (pe_glob rfl c3 (v := .int (-1)) ⟨k3, rfl⟩))) pss_nil)
      (pss_cons (ps_fld (pv 3) (pv 2) rfl) (pss_one (ps_ret pe_int)))))), ?_⟩
    obtain ⟨db, hb⟩ := B.bk
    refine ⟨_, rfl, _, rfl, _, _, db, _, _, rfl, hb, T.cl_Book, T.n_Book_genera, bk_gen L, _, _, rfl, .inl (SqL.of B.lg), _, _, rfl, rfl, _, rfl, ?_⟩
    rw [List.length_map, B.gl, show decide ((s.genera.length : Int) ≤ (g : Int)) = decide (s.genera.length ≤ g) from le_nat]
    refine ite2 (fun hg => iteT ?_) (fun hg => ?_)
    · refine k L H s (-2) ?_ B (Ext.refl _ (Same.refl H))
      rw [step_type, List.getElem?_eq_none (of_decide_eq_true hg)]
    have hg' : g < s.genera.length := Nat.lt_of_not_le fun z => hg (decide_eq_true z)
    refine ⟨_, rfl, _, rfl, _, _, db, _, _, rfl, hb, T.cl_Book, T.n_Book_species, bk_spc L, _, _, rfl, .inl (SqL.of B.ls), _, _, rfl, rfl, _, rfl, ?_⟩
    rw [List.length_map, B.sl, show decide ((s.species.length : Int) ≤ (n : Int)) = decide (s.species.length ≤ n) from le_nat]
    have ex := List.getElem?_eq_getElem hg'
    generalize s.genera[g] = x at ex
    refine ite2 (fun hn => ?_) (fun hn => ?_)
    · refine k L H s (-2) ?_ B (Ext.refl _ (Same.refl H))
      rw [step_type, ex, List.getElem?_eq_none (of_decide_eq_true hn)]
    have hn' : n < s.species.length := Nat.lt_of_not_le fun z => hn (decide_eq_true z)
    have ey := List.getElem?_eq_getElem hn'
    generalize s.species[n] = y at ey
    have hy : y.genus < s.genera.length := W.sg y (List.mem_of_getElem? ey)
    have ez := List.getElem?_eq_getElem hy
    generalize s.genera[y.genus] = z at ez
    have ew : Kct4.genusWord s y.genus = z.word := by unfold Kct4.genusWord; rw [ez]; rfl
    obtain ⟨p, dp, p1, p2, p3, p4⟩ := B.genRef ex
    obtain ⟨q, dq, q1, q2, q3, q4⟩ := B.genRef ez
    refine ⟨_, rfl, _, _, db, _, _, rfl, hb, T.cl_Book, T.n_Book_genera, bk_gen L, _, rfl, _, _, _, _, rfl, rfl, SqL.of B.lg, atI_nat p2, ?_⟩
    refine ⟨_, rfl, _, _, dp, _, _, rfl, p3, T.cl_Genus, T.n_Genus_anchor, gf_anchor _ _, rfl, _, rfl, ?_⟩
    cases et : x.type_ with
    | some m =>
      refine iteT ?_
      refine k L H s (-17) ?_ B (Ext.refl _ (Same.refl H))
      rw [step_type, ex, ey]
      dsimp only
      rw [et, if_pos (show (some m).isSome = true from rfl)]
    | none =>
      refine iteF ?_
      refine ⟨_, rfl, _, db, _, rfl, hb, rfl, _, rfl, L, s, n, y, z, q, rfl, B, ey, ez, q1, _, rfl, _, _, dp, _, _, rfl, p3, T.cl_Genus, T.n_Genus_word, gf_word _ _, _, _, z.word, x.word, rfl, rfl, SqT.of q4, SqT.of p4, _, rfl, ?_⟩
      by_cases hw : z.word = x.word
      · refine iteNS hw ?_
        refine ⟨_, rfl, _, rfl, _, _, dp, _, rfl, p3, T.cl_Genus, T.n_Genus_anchor, (by show 4 < 1000; decide), ?_⟩
        have e1 := gp_anchor p.2 x n
        refine k L _ { s with genera := s.genera.set g { x with type_ := some n } } 0 ?_ (by rw [e1]; exact B.setG p1 ex p3 rfl) (Ext.write _ (.inr (.inr (.inr (.inr (.inl ⟨p, List.mem_of_getElem? p1, .inl rfl⟩))))))
        rw [step_type, ex, ey]
        dsimp only
        rw [et, if_neg (by decide), ew, if_neg (by simp [hw])]
      · rw [decide_eq_false hw]
        refine iteT ?_
        refine k L H s (-1) ?_ B (Ext.refl _ (Same.refl H))
        rw [step_type, ex, ey]
        dsimp only
        rw [et, if_neg (by decide), ew, if_pos (by simp [hw])]
def sp_Book_rule_name (t : Adr) : Sp := fun vs H Q _ => ∃ (L : BL) (s : Abs) (rank n r : Nat), vs = [.ref L.b, .int (rank : Int), .int (n : Int), .int (r : Int)] ∧ BookAt t H L s ∧ Then t H L s (.rule_ rank n r) (fun _ => False) Q
theorem step_rule (s : Abs) (rank n r : Nat) : Kct4.step s (.rule_ rank n r) = if 1 < rank ∨ 2 < r then (s, .num (-22)) else if rank = 0 then (match s.genera[n]? with
      | none => (s, .num (-2))
      | some x => ({ s with genera := s.genera.set n { x with ruled := Kct4.ruledOf r } }, .num 0))
    else match s.species[n]? with
      | none => (s, .num (-2))
      | some x => ({ s with species := s.species.set n { x with ruled := Kct4.ruledOf r } }, .num 0) := rfl
theorem rul_of {r : Nat} (h : ¬ 2 < r) : (r : Int) = (rulN (Kct4.ruledOf r) : Int) := by
  match r, h with
  | 0, _ => rfl
  | 1, _ => rfl
  | 2, _ => rfl
  | r + 3, h => exact absurd (show 2 < r + 3 by omega) h
theorem ok_Book_rule_name (T : Txt K mg t) : FnOk P w K mg base CX0 1 t.f_Book_rule_name t.d_Book_rule_name ["self", "rank", "number", "ruled"] (sp_Book_rule_name t) := by
  refine T.h_Book_rule_name.F.ok sc_Book_rule_name (fun vs H Q E h => ?_) (fun cdv A outer s0 H vs Q E hr h => ?_)
  · obtain ⟨L, s, rank, n, r, rfl, _⟩ := h
    rfl
  · obtain ⟨L, s, rank, n, r, rfl, B, k⟩ := h
    obtain ⟨k1, c1⟩ := T.c_SPECIES_RANK
    obtain ⟨k2, c2⟩ := T.c_CONSERVED
    obtain ⟨k3, c3⟩ := T.c_WRONG
    obtain ⟨k4, c4⟩ := T.c_GENUS_RANK
    obtain ⟨k5, c5⟩ := T.c_MISSING
    refine ⟨_, pss_cons (ps_if (PW.pt (pw_or (pt_cmpR op_gt (pv 1) (pe_glob rfl c1 (v := .int 1) ⟨k1, rfl⟩) (nobehind _ (by decide) (by decide)))
        (pw_or1 (pt_cmpR op_gt (pv 3) (pe_glob rfl c2 (v := .int 2) ⟨k2, rfl⟩) (nobehind _ (by decide) (by decide)))))) (pss_one (ps_ret (pe_glob rfl c3 (v := .int (-22)) ⟨k3, rfl⟩))) pss_nil)
      (pss_cons (ps_set (i := 4) sc_Book_rule_name.nd rfl (Or.inl rfl) (pe_ifExp (pt_cmpR op_eq (pv 1) (pe_glob rfl c4 (v := .int 0) ⟨k4, rfl⟩) (nobehind _ (by decide) (by decide))) (pe_fld (pv 0) rfl) (pe_fld (pv 0) rfl)))
      (pss_cons (ps_if (pt_cmpR op_ge (pv 2) (pe_callB call_len_seq rfl T.b_len PySem.boot_len (pa_cons (pv 4) pa_nil)) (nobehind _ (by decide) (by decide))) (pss_one (ps_ret (pe_glob rfl c5 (v := .int (-2)) ⟨k5, rfl⟩))) pss_nil)
      (pss_cons (ps_set (i := 5) sc_Book_rule_name.nd rfl (Or.inl rfl) (pe_ix ix_list (pv 4) (pv 2) (fun _ _ => rfl)))
      (pss_cons (ps_fld (pv 5) (pv 3) rfl) (pss_one (ps_ret pe_int)))))), ?_⟩
    obtain ⟨db, hb⟩ := B.bk
    have bad : (1 < rank ∨ 2 < r) → Q (.int (-22)) H := fun c => k L H s (-22) (by rw [step_rule, if_pos c]) B (Ext.refl _ (Same.refl H))
    refine ⟨_, rfl, _, _, rfl, rfl, _, rfl, ?_⟩
    rw [show decide ((1 : Int) < (rank : Int)) = decide (1 < rank) from lt_nat]
    refine ite2 (fun h1 => iteT (bad (.inl (of_decide_eq_true h1)))) (fun h1 => ?_)
    refine ⟨_, rfl, _, _, rfl, rfl, _, rfl, ?_⟩
    rw [show decide ((2 : Int) < (r : Int)) = decide (2 < r) from lt_nat]
    refine ite2 (fun h2 => bad (.inr (of_decide_eq_true h2))) (fun h2 => ?_)
    have h1' : ¬ 1 < rank := fun z => h1 (decide_eq_true z)
    have h2' : ¬ 2 < r := fun z => h2 (decide_eq_true z)
    have c0 : ¬ (1 < rank ∨ 2 < r) := fun z => z.elim h1' h2'
    have er := rul_of h2'
    refine ⟨_, rfl, rfl, _, rfl, ?_⟩
    by_cases h0 : rank = 0
    · subst h0
      refine iteT ?_
      refine ⟨_, rfl, _, _, db, _, _, rfl, hb, T.cl_Book, T.n_Book_genera, bk_gen L, ?_⟩
      refine ⟨_, rfl, _, rfl, _, _, rfl, .inl (SqL.of B.lg), _, _, rfl, rfl, _, rfl, ?_⟩
      rw [List.length_map, B.gl, show decide ((s.genera.length : Int) ≤ (n : Int)) = decide (s.genera.length ≤ n) from le_nat]
      refine ite2 (fun hn => ?_) (fun hn => ?_)
      · refine k L H s (-2) ?_ B (Ext.refl _ (Same.refl H))
        rw [step_rule, if_neg c0, if_pos rfl, List.getElem?_eq_none (of_decide_eq_true hn)]
      have hn' : n < s.genera.length := Nat.lt_of_not_le fun z => hn (decide_eq_true z)
      have ex := List.getElem?_eq_getElem hn'
      generalize s.genera[n] = x at ex
      obtain ⟨p, dp, p1, p2, p3, p4⟩ := B.genRef ex
      refine ⟨_, rfl, _, rfl, _, _, _, _, rfl, rfl, SqL.of B.lg, atI_nat p2, ?_⟩
      refine ⟨_, rfl, _, rfl, _, _, dp, _, rfl, p3, T.cl_Genus, T.n_Genus_ruling, (by show 4 < 1000; decide), ?_⟩
      have e1 := gp_ruling p.2 x (Kct4.ruledOf r) r er
      refine k L _ { s with genera := s.genera.set n { x with ruled := Kct4.ruledOf r } } 0 ?_ (by rw [e1]; exact B.setG p1 ex p3 rfl) (Ext.write _ (.inr (.inr (.inr (.inr (.inl ⟨p, List.mem_of_getElem? p1, .inl rfl⟩))))))
      rw [step_rule, if_neg c0, if_pos rfl, ex]
    · rw [decide_eq_false (show ¬ V.int (rank : Int) = V.int 0 from fun z => h0 (by injection z with z; omega))]
      refine iteF ?_
      refine ⟨_, rfl, _, _, db, _, _, rfl, hb, T.cl_Book, T.n_Book_species, bk_spc L, ?_⟩
      refine ⟨_, rfl, _, rfl, _, _, rfl, .inl (SqL.of B.ls), _, _, rfl, rfl, _, rfl, ?_⟩
      rw [List.length_map, B.sl, show decide ((s.species.length : Int) ≤ (n : Int)) = decide (s.species.length ≤ n) from le_nat]
      refine ite2 (fun hn => ?_) (fun hn => ?_)
      · refine k L H s (-2) ?_ B (Ext.refl _ (Same.refl H))
        rw [step_rule, if_neg c0, if_neg h0, List.getElem?_eq_none (of_decide_eq_true hn)]
      have hn' : n < s.species.length := Nat.lt_of_not_le fun z => hn (decide_eq_true z)
      have ex := List.getElem?_eq_getElem hn'
      generalize s.species[n] = x at ex
      obtain ⟨p, dp, p1, p2, p3, p4⟩ := B.spcRef ex
      refine ⟨_, rfl, _, rfl, _, _, _, _, rfl, rfl, SqL.of B.ls, atI_nat p2, ?_⟩
      refine ⟨_, rfl, _, rfl, _, _, dp, _, rfl, p3, T.cl_Species, T.n_Species_ruling, (by show 5 < 1000; decide), ?_⟩
      have e1 := sp_ruling p.2 x (Kct4.ruledOf r) r er
      refine k L _ { s with species := s.species.set n { x with ruled := Kct4.ruledOf r } } 0 ?_ (by rw [e1]; exact B.setS p1 ex p3 rfl) (Ext.write _ (.inr (.inr (.inr (.inr (.inr (.inl ⟨p, List.mem_of_getElem? p1, .inl rfl⟩)))))))
      rw [step_rule, if_neg c0, if_neg h0, ex]
def sp_Book_place_specimen (t : Adr) : Sp := fun vs H Q _ => ∃ (L : BL) (s : Abs) (ty kd : Nat), vs = [.ref L.b, .int (ty : Int), .int (kd : Int)] ∧ BookAt t H L s ∧ Wf s ∧ Then t H L s (.kind ty kd) (fun _ => False) Q
theorem step_kind (s : Abs) (ty kd : Nat) : Kct4.step s (.kind ty kd) = if Kct4.SPECIMENS ≤ ty ∨ Kct4.KINDS < kd then (s, .num (-22)) else ({ s with kindOf := s.kindOf.set ty (Kct4.somewhere Kct4.KINDS kd) }, .num 0) := rfl
theorem enc_some {kd : Nat} (h : ¬ 256 < kd) : V.int (kd : Int) = encK (Kct4.somewhere Kct4.KINDS kd) := by
  unfold Kct4.somewhere
  by_cases q : kd < Kct4.KINDS
  · rw [if_pos q]; rfl
  · rw [if_neg q]
    have e : kd = 256 := by
      have : ¬ kd < 256 := q
      omega
    rw [e]; rfl
theorem ok_Book_place_specimen (T : Txt K mg t) : FnOk P w K mg base CX0 1 t.f_Book_place_specimen t.d_Book_place_specimen ["self", "specimen", "kind"] (sp_Book_place_specimen t) := by
  refine T.h_Book_place_specimen.F.ok sc_Book_place_specimen (fun vs H Q E h => ?_) (fun cdv A outer s0 H vs Q E hr h => ?_)
  · obtain ⟨L, s, ty, kd, rfl, _⟩ := h
    rfl
  · obtain ⟨L, s, ty, kd, rfl, B, W, k⟩ := h
    obtain ⟨k1, c1⟩ := T.c_SPECIMENS
    obtain ⟨k2, c2⟩ := T.c_NO_KIND
    obtain ⟨k3, c3⟩ := T.c_WRONG
    refine ⟨_, pss_cons (ps_if (PW.pt (pw_or (pt_cmpR op_ge (pv 1) (pe_glob rfl c1 (v := .int 1024) ⟨k1, rfl⟩) (nobehind _ (by decide) (by decide)))
        (pw_or1 (pt_cmpR op_gt (pv 2) (pe_glob rfl c2 (v := .int 256) ⟨k2, rfl⟩) (nobehind _ (by decide) (by decide)))))) (pss_one (ps_ret (pe_glob rfl c3 (v := .int (-22)) ⟨k3, rfl⟩))) pss_nil)
      (pss_cons (ps_asg (pv 2) (pg_sub (pe_fld (pv 0) rfl) (pv 1) set_list)) (pss_one (ps_ret pe_int))), ?_⟩
    obtain ⟨db, hb⟩ := B.bk
    have bad : (Kct4.SPECIMENS ≤ ty ∨ Kct4.KINDS < kd) → Q (.int (-22)) H := fun c => k L H s (-22) (by rw [step_kind, if_pos c]) B (Ext.refl _ (Same.refl H))
    refine ⟨_, rfl, _, _, rfl, rfl, _, rfl, ?_⟩
    rw [show decide ((1024 : Int) ≤ (ty : Int)) = decide (1024 ≤ ty) from le_nat]
    refine ite2 (fun h1 => iteT (bad (.inl (of_decide_eq_true h1)))) (fun h1 => ?_)
    refine ⟨_, rfl, _, _, rfl, rfl, _, rfl, ?_⟩
    rw [show decide ((256 : Int) < (kd : Int)) = decide (256 < kd) from lt_nat]
    refine ite2 (fun h2 => bad (.inr (of_decide_eq_true h2))) (fun h2 => ?_)
    have h1' : ¬ 1024 ≤ ty := fun z => h1 (decide_eq_true z)
    have h2' : ¬ 256 < kd := fun z => h2 (decide_eq_true z)
    have c0 : ¬ (Kct4.SPECIMENS ≤ ty ∨ Kct4.KINDS < kd) := fun z => z.elim h1' h2'
    refine ⟨_, rfl, _, rfl, _, _, db, _, _, rfl, hb, T.cl_Book, T.n_Book_kinds, bk_knd L, _, rfl, L.lk, _, _, ty, rfl, rfl, B.lk, ?_, ?_⟩
    · unfold ixN
      rw [List.length_map, W.kl, if_pos (by omega), if_pos (by omega), Int.toNat_natCast]
    · rw [enc_some h2']
      refine k L _ { s with kindOf := s.kindOf.set ty (Kct4.somewhere Kct4.KINDS kd) } 0 ?_ (B.setK ty _) (Ext.write _ (.inr (.inr (.inr (.inl rfl)))))
      rw [step_kind, if_neg c0]
def sp_Book_place_kind (t : Adr) : Sp := fun vs H Q _ => ∃ (L : BL) (s : Abs) (kd g : Nat), vs = [.ref L.b, .int (kd : Int), .int (g : Int)] ∧ BookAt t H L s ∧ Wf s ∧ Then t H L s (.group kd g) (fun _ => False) Q
theorem step_group (s : Abs) (kd g : Nat) : Kct4.step s (.group kd g) = if Kct4.KINDS ≤ kd ∨ Kct4.GROUPS < g then (s, .num (-22)) else ({ s with groupOf := s.groupOf.set kd (Kct4.somewhere Kct4.GROUPS g) }, .num 0) := rfl
theorem encG_some {g : Nat} (h : ¬ 64 < g) : V.int (g : Int) = encG (Kct4.somewhere Kct4.GROUPS g) := by
  unfold Kct4.somewhere
  by_cases q : g < Kct4.GROUPS
  · rw [if_pos q]; rfl
  · rw [if_neg q]
    have e : g = 64 := by
      have : ¬ g < 64 := q
      omega
    rw [e]; rfl
theorem ok_Book_place_kind (T : Txt K mg t) : FnOk P w K mg base CX0 1 t.f_Book_place_kind t.d_Book_place_kind ["self", "kind", "group"] (sp_Book_place_kind t) := by
  refine T.h_Book_place_kind.F.ok sc_Book_place_kind (fun vs H Q E h => ?_) (fun cdv A outer s0 H vs Q E hr h => ?_)
  · obtain ⟨L, s, kd, g, rfl, _⟩ := h
    rfl
  · obtain ⟨L, s, kd, g, rfl, B, W, k⟩ := h
    obtain ⟨k1, c1⟩ := T.c_NO_KIND
    obtain ⟨k2, c2⟩ := T.c_NO_GROUP
    obtain ⟨k3, c3⟩ := T.c_WRONG
    refine ⟨_, pss_cons (ps_if (PW.pt (pw_or (pt_cmpR op_ge (pv 1) (pe_glob rfl c1 (v := .int 256) ⟨k1, rfl⟩) (nobehind _ (by decide) (by decide)))
        (pw_or1 (pt_cmpR op_gt (pv 2) (pe_glob rfl c2 (v := .int 64) ⟨k2, rfl⟩) (nobehind _ (by decide) (by decide)))))) (pss_one (ps_ret (pe_glob rfl c3 (v := .int (-22)) ⟨k3, rfl⟩))) pss_nil)
      (pss_cons (ps_asg (pv 2) (pg_sub (pe_fld (pv 0) rfl) (pv 1) set_list)) (pss_one (ps_ret pe_int))), ?_⟩
    obtain ⟨db, hb⟩ := B.bk
    have bad : (Kct4.KINDS ≤ kd ∨ Kct4.GROUPS < g) → Q (.int (-22)) H := fun c => k L H s (-22) (by rw [step_group, if_pos c]) B (Ext.refl _ (Same.refl H))
    refine ⟨_, rfl, _, _, rfl, rfl, _, rfl, ?_⟩
    rw [show decide ((256 : Int) ≤ (kd : Int)) = decide (256 ≤ kd) from le_nat]
    refine ite2 (fun h1 => iteT (bad (.inl (of_decide_eq_true h1)))) (fun h1 => ?_)
    refine ⟨_, rfl, _, _, rfl, rfl, _, rfl, ?_⟩
    rw [show decide ((64 : Int) < (g : Int)) = decide (64 < g) from lt_nat]
    refine ite2 (fun h2 => bad (.inr (of_decide_eq_true h2))) (fun h2 => ?_)
    have h1' : ¬ 256 ≤ kd := fun z => h1 (decide_eq_true z)
    have h2' : ¬ 64 < g := fun z => h2 (decide_eq_true z)
    have c0 : ¬ (Kct4.KINDS ≤ kd ∨ Kct4.GROUPS < g) := fun z => z.elim h1' h2'
    refine ⟨_, rfl, _, rfl, _, _, db, _, _, rfl, hb, T.cl_Book, T.n_Book_groups, bk_grp L, _, rfl, L.lo, _, _, kd, rfl, rfl, B.lo, ?_, ?_⟩
    · unfold ixN
      rw [List.length_map, W.ol, if_pos (by omega), if_pos (by omega), Int.toNat_natCast]
    · rw [encG_some h2']
      refine k L _ { s with groupOf := s.groupOf.set kd (Kct4.somewhere Kct4.GROUPS g) } 0 ?_ (B.setO kd _) (Ext.write _ (.inr (.inr (.inr (.inr (.inr (.inr rfl)))))))
      rw [step_group, if_neg c0]
end
end Ns
end
section
set_option Elab.async false
set_option linter.all false
set_option maxRecDepth 100000
set_option maxHeartbeats 2000000
namespace Ns
open PySem PySem.Spec PyProof.Rows L2
open PySem.W (Codec)
open Kct4 (Abs Genus Species Ruled Call)
def ArgL (K : PySem.W.Frag) (H : Hp) (a : Addr) (ns : List Int) : Prop := (∃ o, H a = some (.frz o (.lst (ns.map V.int)))) ∨ SqL K (fun _ => none) a (ns.map V.int)
theorem ArgL.sq {K : PySem.W.Frag} {H : Hp} {a : Addr} {ns : List Int} (h : ArgL K H a ns) : SqL K H a (ns.map V.int) := by
  rcases h with ⟨o, h⟩ | h
  · exact .inl (.inr ⟨o, h⟩)
  · rcases h with (h | ⟨o, h⟩) | h
    · cases h
    · cases h
    · exact .inr h
theorem ArgL.stay {K : PySem.W.Frag} {H H' : Hp} {a : Addr} {ns : List Int} (h : ArgL K H a ns) (k : ∀ o u, H a = some (.frz o u) → H' a = some (.frz o u)) : ArgL K H' a ns := by
  rcases h with ⟨o, h⟩ | h
  · exact .inl ⟨o, k _ _ h⟩
  · exact .inr h
theorem ArgL.of {K : PySem.W.Frag} {H : Hp} {a : Addr} {ns : List Int} (h : SqL K H a (ns.map V.int)) (O : OnlyF H) : ArgL K H a ns := by
  rcases h with (h | ⟨o, h⟩) | h
  · rcases O a with z | ⟨o, u, z⟩
    · rw [h] at z; cases z
    · rw [h] at z; cases z
  · exact .inl ⟨o, h⟩
  · exact .inr (.inr h)
theorem BookAt.notF {t : Adr} {H : Hp} {L : BL} {s : Abs} (B : BookAt t H L s) {a : Addr} {o : Obj} {u : HO} (h : H a = some (.frz o u)) : ¬ L.In a := by
  rintro (rfl | rfl | rfl | rfl | ⟨q, hq, rfl | rfl⟩ | ⟨q, hq, rfl | rfl⟩ | rfl)
  · obtain ⟨dx, e⟩ := B.bk; rw [h] at e; cases e
  · have e := B.lg; rw [h] at e; cases e
  · have e := B.ls; rw [h] at e; cases e
  · have e := B.lk; rw [h] at e; cases e
  · obtain ⟨i, x, _, _, ⟨dx, e⟩, _⟩ := B.gx hq; rw [h] at e; cases e
  · obtain ⟨i, x, _, _, _, e⟩ := B.gx hq; rw [h] at e; cases e
  · obtain ⟨i, x, _, _, ⟨dx, e⟩, _⟩ := B.sx hq; rw [h] at e; cases e
  · obtain ⟨i, x, _, _, _, e⟩ := B.sx hq; rw [h] at e; cases e
  · have e := B.lo; rw [h] at e; cases e
theorem BookAt.notT {t : Adr} {H : Hp} {L : BL} {s : Abs} (B : BookAt t H L s) {a : Addr} {ps : Array Value} (h : H a = some (.tbl ps)) : ¬ L.In a := by
  rintro (rfl | rfl | rfl | rfl | ⟨q, hq, rfl | rfl⟩ | ⟨q, hq, rfl | rfl⟩ | rfl)
  · obtain ⟨dx, e⟩ := B.bk; rw [h] at e; cases e
  · have e := B.lg; rw [h] at e; cases e
  · have e := B.ls; rw [h] at e; cases e
  · have e := B.lk; rw [h] at e; cases e
  · obtain ⟨i, x, _, _, ⟨dx, e⟩, _⟩ := B.gx hq; rw [h] at e; cases e
  · obtain ⟨i, x, _, _, _, e⟩ := B.gx hq; rw [h] at e; cases e
  · obtain ⟨i, x, _, _, ⟨dx, e⟩, _⟩ := B.sx hq; rw [h] at e; cases e
  · obtain ⟨i, x, _, _, _, e⟩ := B.sx hq; rw [h] at e; cases e
  · have e := B.lo; rw [h] at e; cases e
theorem BookAt.notX {t : Adr} {H : Hp} {L : BL} {s : Abs} (B : BookAt t H L s) {a : Addr} {φ : Heap → Prop} (h : H a = some (.ext φ)) : ¬ L.In a := by
  rintro (rfl | rfl | rfl | rfl | ⟨q, hq, rfl | rfl⟩ | ⟨q, hq, rfl | rfl⟩ | rfl)
  · obtain ⟨dx, e⟩ := B.bk; rw [h] at e; cases e
  · have e := B.lg; rw [h] at e; cases e
  · have e := B.ls; rw [h] at e; cases e
  · have e := B.lk; rw [h] at e; cases e
  · obtain ⟨i, x, _, _, ⟨dx, e⟩, _⟩ := B.gx hq; rw [h] at e; cases e
  · obtain ⟨i, x, _, _, _, e⟩ := B.gx hq; rw [h] at e; cases e
  · obtain ⟨i, x, _, _, ⟨dx, e⟩, _⟩ := B.sx hq; rw [h] at e; cases e
  · obtain ⟨i, x, _, _, _, e⟩ := B.sx hq; rw [h] at e; cases e
  · have e := B.lo; rw [h] at e; cases e
theorem BookAt.notR {t : Adr} {H : Hp} {L : BL} {s : Abs} (B : BookAt t H L s) {r C dx a : Addr} {i : Nat} (h : H r = some (.ins C dx (rdF a i))) : ¬ L.In r := by
  rintro (rfl | rfl | rfl | rfl | ⟨q, hq, rfl | rfl⟩ | ⟨q, hq, rfl | rfl⟩ | rfl)
  · obtain ⟨dx, e⟩ := B.bk; rw [h] at e; injection e with e; injection e with _ _ e; cases e
  · have e := B.lg; rw [h] at e; cases e
  · have e := B.ls; rw [h] at e; cases e
  · have e := B.lk; rw [h] at e; cases e
  · obtain ⟨i, x, _, _, ⟨dx, e⟩, _⟩ := B.gx hq; rw [h] at e; injection e with e; injection e with _ _ e; cases e
  · obtain ⟨i, x, _, _, _, e⟩ := B.gx hq; rw [h] at e; cases e
  · obtain ⟨i, x, _, _, ⟨dx, e⟩, _⟩ := B.sx hq; rw [h] at e; injection e with e; injection e with _ _ e; cases e
  · obtain ⟨i, x, _, _, _, e⟩ := B.sx hq; rw [h] at e; cases e
  · have e := B.lo; rw [h] at e; cases e
section
variable {P : Program} {w : World} {K : PySem.W.Frag} {mg : Str → Option Value} {base : Heap} {t : Adr}
def sp_Book_init (t : Adr) : Sp := fun vs H Q _ => ∃ (b dx : Addr), vs = [.ref b] ∧ H b = some (.ins t.C_Book dx []) ∧
  ∀ (L' : BL) (H' : Hp), BookAt t H' L' Kct4.first → L'.b = b → (∀ p, L'.In p → p = b ∨ H p = none) → (∀ p o, H p = some o → p ≠ b → H' p = some o) → Q .non H'
theorem ok_Book_init (T : Txt K mg t) : FnOk P w K mg base CX0 2 t.f_Book_init t.d_Book_init ["self"] (sp_Book_init t) := by
  have G1 := ok_Book_begin (P := P) (w := w) (base := base) T
  refine T.h_Book_init.F.ok sc_Book_init (fun vs H Q E h => ?_) (fun cdv A outer s0 H vs Q E hr h => ?_)
  · obtain ⟨b, dx, rfl, _⟩ := h
    rfl
  · obtain ⟨b, dx, rfl, h1, k⟩ := h
    refine ⟨_, pss_one (ps_expr (pe_meth0 (pv 0) T.cl_Book T.h_Book_begin.m G1 hr T.h_Book_begin.b .nil pass0)), ?_⟩
    exact ⟨_, rfl, b, dx, _, rfl, h1, rfl, b, dx, [], rfl, h1, .inl rfl, fun L' H' B e n kp => k L' H' B e n kp⟩
end
end Ns
end
section
set_option Elab.async false
set_option linter.all false
set_option maxRecDepth 100000
set_option maxHeartbeats 2000000
namespace Ns
open PySem PySem.Spec PyProof.Rows L2
open PySem.W (Codec)
open Kct4 (Abs Genus Species Ruled Call)
def ContI (t : Adr) (H : Hp) (L : BL) (s : Abs) (r dx a : Addr) (j : Nat) (c : List (List Int)) (Q : VK) : Prop :=
  ∀ (H' : Hp) (L' : BL) (v : Int), (Kct4Neutral.step s c).2 = [v] → BookAt t H' L' (Kct4Neutral.step s c).1 → L'.b = L.b → H' r = some (.ins t.C_Reader dx (rdF a j)) → (∀ q, L'.In q → L.In q ∨ H q = none) →
    (∀ q o, H q = some o → ¬ L.In q → q ≠ r → H' q = some o) → (∀ q o, H q = some o → ∃ o', H' q = some o') → Q (.int v) H'
section
variable {P : Program} {w : World} {K : PySem.W.Frag} {mg : Str → Option Value} {base : Heap} {t : Adr}
theorem BookAt.rd {H H2 : Hp} {L : BL} {s : Abs} {r dx a : Addr} {i : Nat} {C : Addr} (B : BookAt t H L s) (hr : H r = some (.ins C dx (rdF a i))) (hk : ∀ b o, H b = some o → b ≠ r → H2 b = some o) : BookAt t H2 L s :=
  B.stay fun p o hin e => hk p o e fun z => B.notR hr (z ▸ hin)
theorem ArgL.rd {H H2 : Hp} {r dx a C : Addr} {fs : List (Str × V)} {ns : List Int} (h : ArgL K H a ns) (hr : H r = some (.ins C dx fs)) (hk : ∀ b o, H b = some o → b ≠ r → H2 b = some o) : ArgL K H2 a ns :=
  h.stay fun o u e => hk a _ e fun z => by rw [z, hr] at e; cases e
theorem keep_upd {H : Hp} {r : Addr} {o : HO} : ∀ b u, H b = some u → b ≠ r → (upd H r o) b = some u := fun b u e ne => (upd_ne ne).trans e
theorem thenI {H H2 : Hp} {L : BL} {s : Abs} {r dx a : Addr} {i j : Nat} {c : List (List Int)} {cc : Call} {more : Addr → Prop} {Q : VK} (B : BookAt t H L s) (hr : H r = some (.ins t.C_Reader dx (rdF a i)))
    (hk : ∀ b o, H b = some o → b ≠ r → H2 b = some o) (hr2 : H2 r = some (.ins t.C_Reader dx (rdF a j))) (k : ContI t H L s r dx a j c Q) (hc : Kct4Neutral.call c = cc) (hm : ∀ p, more p → H p = none) : Then t H2 L s cc more Q := by
  intro L' H' s' v e B' X
  have nr := B.notR hr
  have free : ∀ p, H2 p = none → H p = none := fun p z => by
    cases q : H p with
    | none => rfl
    | some o =>
      by_cases ne : p = r
      · rw [ne, hr2] at z; cases z
      · rw [hk p o q ne] at z; cases z
  have dom2 : ∀ p o, H p = some o → ∃ o', H2 p = some o' := fun p o e => by
    by_cases ne : p = r
    · rw [ne]; exact ⟨_, hr2⟩
    · exact ⟨o, hk p o e ne⟩
  refine k H' L' v ?_ ?_ X.b (X.keep r _ hr2 nr) (fun q hq => ?_) (fun q o e nin ne => X.keep q o (hk q o e ne) nin) (fun q o e => ?_)
  · show Kct4Neutral.told (Kct4.step s (Kct4Neutral.call c)).2 = [v]
    rw [hc, e]
    rfl
  · show BookAt t H' L' (Kct4.step s (Kct4Neutral.call c)).1
    rw [hc, e]
    exact B'
  · rcases X.new q hq with z | z | z
    · exact .inl z
    · exact .inr (free q z)
    · exact .inr (hm q z)
  · obtain ⟨o', e'⟩ := dom2 q o e
    exact X.dom q o' e'
structure At (t : Adr) (K : PySem.W.Frag) (H : Hp) (L : BL) (s : Abs) (r dx a : Addr) (ns : List Int) (i : Nat) : Prop where
  B : BookAt t H L s
  W : Wf s
  R : H r = some (.ins t.C_Reader dx (rdF a i))
  A : ArgL K H a ns
theorem At.take {H : Hp} {L : BL} {s : Abs} {r dx a : Addr} {ns : List Int} {i : Nat} (X : At t K H L s r dx a ns i) (j : Nat) : At t K (upd H r (.ins t.C_Reader dx (rdF a j))) L s r dx a ns j :=
  ⟨X.B.rd X.R keep_upd, X.W, upd_same, X.A.rd X.R keep_upd⟩
def sp_answer_tie (t : Adr) (K : PySem.W.Frag) : Sp := fun vs H Q _ => ∃ (L : BL) (s : Abs) (r dx a : Addr) (ns : List Int) (i x y : Nat), vs = [.ref L.b, .ref r] ∧ At t K H L s r dx a ns (i + 1) ∧ ns[i + 1]? = some (x : Int) ∧ ns[i + 2]? = some (y : Int) ∧
  ContI t H L s r dx a (i + 3) [[3, (x : Int), (y : Int)]] Q
theorem ok_answer_tie (T : Txt K mg t) : FnOk P w K mg base CX0 3 t.f_answer_tie t.d_answer_tie ["book", "reader"] (sp_answer_tie t K) := by
  have GT := ok_Reader_take_number (P := P) (w := w) (base := base) T
  have GM := ok_Book_tie_genus (P := P) (w := w) (base := base) T
  refine T.h_answer_tie.F.ok sc_answer_tie (fun vs H Q E h => ?_) (fun cdv A outer s0 H vs Q E hr h => ?_)
  · obtain ⟨L, s, r, dx, a, ns, i, x, y, rfl, _⟩ := h
    rfl
  · obtain ⟨L, s, r, dx, a, ns, i, x, y, rfl, X, h1, h2, k⟩ := h
    refine ⟨_, pss_cons (ps_set (i := 2) sc_answer_tie.nd rfl (Or.inl rfl) (pe_meth0 (pv 1) T.cl_Reader T.h_Reader_take_number.m GT (hr.mono (by decide)) T.h_Reader_take_number.b .nil pass0))
      (pss_cons (ps_set (i := 3) sc_answer_tie.nd rfl (Or.inl rfl) (pe_meth0 (pv 1) T.cl_Reader T.h_Reader_take_number.m GT (hr.mono (by decide)) T.h_Reader_take_number.b .nil pass0))
      (pss_one (ps_ret (pe_meth (pv 0) T.cl_Book T.h_Book_tie_genus.m GM (hr.mono (by decide)) T.h_Book_tie_genus.b .nil pass0 (pa_cons (pv 2) (pa_cons (pv 3) pa_nil)))))), ?_⟩
    refine ⟨_, rfl, r, dx, _, rfl, X.R, rfl, r, dx, a, ns, i + 1, _, rfl, X.R, X.A.sq, h1, ?_⟩
    have X1 := X.take (i + 2)
    refine ⟨_, rfl, r, dx, _, rfl, X1.R, rfl, r, dx, a, ns, i + 2, _, rfl, X1.R, X1.A.sq, h2, ?_⟩
    rw [upd_upd]
    have X2 := X.take (i + 3)
    obtain ⟨db, hb⟩ := X2.B.bk
    exact ⟨_, rfl, _, db, _, rfl, hb, rfl, _, rfl, _, rfl, L, s, x, y, rfl, X2.B, X2.W, thenI X.B X.R keep_upd upd_same k rfl (fun _ z => z.elim)⟩
def sp_answer_kind (t : Adr) (K : PySem.W.Frag) : Sp := fun vs H Q _ => ∃ (L : BL) (s : Abs) (r dx a : Addr) (ns : List Int) (i x y : Nat), vs = [.ref L.b, .ref r] ∧ At t K H L s r dx a ns (i + 1) ∧ ns[i + 1]? = some (x : Int) ∧ ns[i + 2]? = some (y : Int) ∧
  ContI t H L s r dx a (i + 3) [[5, (x : Int), (y : Int)]] Q
theorem ok_answer_kind (T : Txt K mg t) : FnOk P w K mg base CX0 3 t.f_answer_kind t.d_answer_kind ["book", "reader"] (sp_answer_kind t K) := by
  have GT := ok_Reader_take_number (P := P) (w := w) (base := base) T
  have GM := ok_Book_place_specimen (P := P) (w := w) (base := base) T
  refine T.h_answer_kind.F.ok sc_answer_kind (fun vs H Q E h => ?_) (fun cdv A outer s0 H vs Q E hr h => ?_)
  · obtain ⟨L, s, r, dx, a, ns, i, x, y, rfl, _⟩ := h
    rfl
  · obtain ⟨L, s, r, dx, a, ns, i, x, y, rfl, X, h1, h2, k⟩ := h
    refine ⟨_, pss_cons (ps_set (i := 2) sc_answer_kind.nd rfl (Or.inl rfl) (pe_meth0 (pv 1) T.cl_Reader T.h_Reader_take_number.m GT (hr.mono (by decide)) T.h_Reader_take_number.b .nil pass0))
      (pss_cons (ps_set (i := 3) sc_answer_kind.nd rfl (Or.inl rfl) (pe_meth0 (pv 1) T.cl_Reader T.h_Reader_take_number.m GT (hr.mono (by decide)) T.h_Reader_take_number.b .nil pass0))
      (pss_one (ps_ret (pe_meth (pv 0) T.cl_Book T.h_Book_place_specimen.m GM (hr.mono (by decide)) T.h_Book_place_specimen.b .nil pass0 (pa_cons (pv 2) (pa_cons (pv 3) pa_nil)))))), ?_⟩
    refine ⟨_, rfl, r, dx, _, rfl, X.R, rfl, r, dx, a, ns, i + 1, _, rfl, X.R, X.A.sq, h1, ?_⟩
    have X1 := X.take (i + 2)
    refine ⟨_, rfl, r, dx, _, rfl, X1.R, rfl, r, dx, a, ns, i + 2, _, rfl, X1.R, X1.A.sq, h2, ?_⟩
    rw [upd_upd]
    have X2 := X.take (i + 3)
    obtain ⟨db, hb⟩ := X2.B.bk
    exact ⟨_, rfl, _, db, _, rfl, hb, rfl, _, rfl, _, rfl, L, s, x, y, rfl, X2.B, X2.W, thenI X.B X.R keep_upd upd_same k rfl (fun _ z => z.elim)⟩
def sp_answer_group (t : Adr) (K : PySem.W.Frag) : Sp := fun vs H Q _ => ∃ (L : BL) (s : Abs) (r dx a : Addr) (ns : List Int) (i x y : Nat), vs = [.ref L.b, .ref r] ∧ At t K H L s r dx a ns (i + 1) ∧ ns[i + 1]? = some (x : Int) ∧ ns[i + 2]? = some (y : Int) ∧
  ContI t H L s r dx a (i + 3) [[6, (x : Int), (y : Int)]] Q
theorem ok_answer_group (T : Txt K mg t) : FnOk P w K mg base CX0 3 t.f_answer_group t.d_answer_group ["book", "reader"] (sp_answer_group t K) := by
  have GT := ok_Reader_take_number (P := P) (w := w) (base := base) T
  have GM := ok_Book_place_kind (P := P) (w := w) (base := base) T
  refine T.h_answer_group.F.ok sc_answer_group (fun vs H Q E h => ?_) (fun cdv A outer s0 H vs Q E hr h => ?_)
  · obtain ⟨L, s, r, dx, a, ns, i, x, y, rfl, _⟩ := h
    rfl
  · obtain ⟨L, s, r, dx, a, ns, i, x, y, rfl, X, h1, h2, k⟩ := h
    refine ⟨_, pss_cons (ps_set (i := 2) sc_answer_group.nd rfl (Or.inl rfl) (pe_meth0 (pv 1) T.cl_Reader T.h_Reader_take_number.m GT (hr.mono (by decide)) T.h_Reader_take_number.b .nil pass0))
      (pss_cons (ps_set (i := 3) sc_answer_group.nd rfl (Or.inl rfl) (pe_meth0 (pv 1) T.cl_Reader T.h_Reader_take_number.m GT (hr.mono (by decide)) T.h_Reader_take_number.b .nil pass0))
      (pss_one (ps_ret (pe_meth (pv 0) T.cl_Book T.h_Book_place_kind.m GM (hr.mono (by decide)) T.h_Book_place_kind.b .nil pass0 (pa_cons (pv 2) (pa_cons (pv 3) pa_nil)))))), ?_⟩
    refine ⟨_, rfl, r, dx, _, rfl, X.R, rfl, r, dx, a, ns, i + 1, _, rfl, X.R, X.A.sq, h1, ?_⟩
    have X1 := X.take (i + 2)
    refine ⟨_, rfl, r, dx, _, rfl, X1.R, rfl, r, dx, a, ns, i + 2, _, rfl, X1.R, X1.A.sq, h2, ?_⟩
    rw [upd_upd]
    have X2 := X.take (i + 3)
    obtain ⟨db, hb⟩ := X2.B.bk
    exact ⟨_, rfl, _, db, _, rfl, hb, rfl, _, rfl, _, rfl, L, s, x, y, rfl, X2.B, X2.W, thenI X.B X.R keep_upd upd_same k rfl (fun _ z => z.elim)⟩
def sp_answer_rule (t : Adr) (K : PySem.W.Frag) : Sp := fun vs H Q _ => ∃ (L : BL) (s : Abs) (r dx a : Addr) (ns : List Int) (i x y z : Nat), vs = [.ref L.b, .ref r] ∧ At t K H L s r dx a ns (i + 1) ∧ ns[i + 1]? = some (x : Int) ∧ ns[i + 2]? = some (y : Int) ∧ ns[i + 3]? = some (z : Int) ∧
  ContI t H L s r dx a (i + 4) [[4, (x : Int), (y : Int), (z : Int)]] Q
theorem ok_answer_rule (T : Txt K mg t) : FnOk P w K mg base CX0 3 t.f_answer_rule t.d_answer_rule ["book", "reader"] (sp_answer_rule t K) := by
  have GT := ok_Reader_take_number (P := P) (w := w) (base := base) T
  have GM := ok_Book_rule_name (P := P) (w := w) (base := base) T
  refine T.h_answer_rule.F.ok sc_answer_rule (fun vs H Q E h => ?_) (fun cdv A outer s0 H vs Q E hr h => ?_)
  · obtain ⟨L, s, r, dx, a, ns, i, x, y, z, rfl, _⟩ := h
    rfl
  · obtain ⟨L, s, r, dx, a, ns, i, x, y, z, rfl, X, h1, h2, h3, k⟩ := h
    refine ⟨_, pss_cons (ps_set (i := 2) sc_answer_rule.nd rfl (Or.inl rfl) (pe_meth0 (pv 1) T.cl_Reader T.h_Reader_take_number.m GT (hr.mono (by decide)) T.h_Reader_take_number.b .nil pass0))
      (pss_cons (ps_set (i := 3) sc_answer_rule.nd rfl (Or.inl rfl) (pe_meth0 (pv 1) T.cl_Reader T.h_Reader_take_number.m GT (hr.mono (by decide)) T.h_Reader_take_number.b .nil pass0))
      (pss_cons (ps_set (i := 4) sc_answer_rule.nd rfl (Or.inl rfl) (pe_meth0 (pv 1) T.cl_Reader T.h_Reader_take_number.m GT (hr.mono (by decide)) T.h_Reader_take_number.b .nil pass0))
      (pss_one (ps_ret (pe_meth (pv 0) T.cl_Book T.h_Book_rule_name.m GM (hr.mono (by decide)) T.h_Book_rule_name.b .nil pass0 (pa_cons (pv 2) (pa_cons (pv 3) (pa_cons (pv 4) pa_nil)))))))), ?_⟩
    refine ⟨_, rfl, r, dx, _, rfl, X.R, rfl, r, dx, a, ns, i + 1, _, rfl, X.R, X.A.sq, h1, ?_⟩
    have X1 := X.take (i + 2)
    refine ⟨_, rfl, r, dx, _, rfl, X1.R, rfl, r, dx, a, ns, i + 2, _, rfl, X1.R, X1.A.sq, h2, ?_⟩
    rw [upd_upd]
    have X2 := X.take (i + 3)
    refine ⟨_, rfl, r, dx, _, rfl, X2.R, rfl, r, dx, a, ns, i + 3, _, rfl, X2.R, X2.A.sq, h3, ?_⟩
    rw [upd_upd]
    have X3 := X.take (i + 4)
    obtain ⟨db, hb⟩ := X3.B.bk
    exact ⟨_, rfl, _, db, _, rfl, hb, rfl, _, rfl, _, rfl, _, rfl, L, s, x, y, z, rfl, X3.B, thenI X.B X.R keep_upd upd_same k rfl (fun _ z => z.elim)⟩
def sp_answer_genus (t : Adr) (K : PySem.W.Frag) : Sp := fun vs H Q _ => ∃ (L : BL) (s : Abs) (r dx a : Addr) (ns : List Int) (i d n : Nat), vs = [.ref L.b, .ref r] ∧ At t K H L s r dx a ns (i + 1) ∧ ns[i + 1]? = some (d : Int) ∧ ns[i + 2]? = some (n : Int) ∧ i + 3 + n ≤ ns.length ∧ ns.length ≤ 30000 ∧
  (∀ z ∈ (ns.drop (i + 3)).take n, 0 ≤ z) ∧ ContI t H L s r dx a (i + 3 + n) [[1, (d : Int)], (ns.drop (i + 3)).take n] Q
theorem ok_answer_genus (T : Txt K mg t) : FnOk P w K mg base CX0 5 t.f_answer_genus t.d_answer_genus ["book", "reader"] (sp_answer_genus t K) := by
  have GT := ok_Reader_take_number (P := P) (w := w) (base := base) T
  have GR := ok_Reader_take_row (P := P) (w := w) (base := base) T
  have GM := ok_Book_add_genus (P := P) (w := w) (base := base) T
  refine T.h_answer_genus.F.ok sc_answer_genus (fun vs H Q E h => ?_) (fun cdv A outer s0 H vs Q E hr h => ?_)
  · obtain ⟨L, s, r, dx, a, ns, i, d, n, rfl, _⟩ := h
    rfl
  · obtain ⟨L, s, r, dx, a, ns, i, d, n, rfl, X, h1, h2, hl, hz, hpos, k⟩ := h
    refine ⟨_, pss_cons (ps_set (i := 2) sc_answer_genus.nd rfl (Or.inl rfl) (pe_meth0 (pv 1) T.cl_Reader T.h_Reader_take_number.m GT (hr.mono (by decide)) T.h_Reader_take_number.b .nil pass0))
      (pss_cons (ps_set (i := 3) sc_answer_genus.nd rfl (Or.inl rfl) (pe_meth0 (pv 1) T.cl_Reader T.h_Reader_take_row.m GR (hr.mono (by decide)) T.h_Reader_take_row.b .nil pass0))
      (pss_one (ps_ret (pe_meth (pv 0) T.cl_Book T.h_Book_add_genus.m GM (hr.mono (by decide)) T.h_Book_add_genus.b .nil pass0 (pa_cons (pv 3) (pa_cons (pv 2) pa_nil)))))), ?_⟩
    refine ⟨_, rfl, r, dx, _, rfl, X.R, rfl, r, dx, a, ns, i + 1, _, rfl, X.R, X.A.sq, h1, ?_⟩
    have X1 := X.take (i + 2)
    refine ⟨_, rfl, r, dx, _, rfl, X1.R, rfl, r, dx, a, ns, i + 2, n, rfl, X1.R, X1.A.sq, h2, hl, fun p H2 np hp hr2 hk => ?_⟩
    have hk2 : ∀ b o, H b = some o → b ≠ r → H2 b = some o := fun b o e ne => hk b o ((upd_ne ne).trans e) ne
    have npH : H p = none := by
      have ne : p ≠ r := fun z => by rw [z, upd_same] at np; cases np
      rw [upd_ne ne] at np
      exact np
    have B2 := X.B.rd X.R hk2
    obtain ⟨db, hb⟩ := B2.bk
    refine ⟨_, rfl, _, db, _, rfl, hb, rfl, _, rfl, _, rfl, L, s, p, _, d, rfl, B2, X.W, hp, hpos, ?_, thenI X.B X.R hk2 hr2 k rfl (fun q z => by rw [z]; exact npH)⟩
    · rw [List.length_take, List.length_drop]
      exact Nat.le_trans (m := 30000) (by omega) (by decide)
def sp_answer_species (t : Adr) (K : PySem.W.Frag) : Sp := fun vs H Q _ => ∃ (L : BL) (s : Abs) (r dx a : Addr) (ns : List Int) (i g d ty n : Nat), vs = [.ref L.b, .ref r] ∧ At t K H L s r dx a ns (i + 1) ∧ ns[i + 1]? = some (g : Int) ∧ ns[i + 2]? = some (d : Int) ∧ ns[i + 3]? = some (ty : Int) ∧ ns[i + 4]? = some (n : Int) ∧
  i + 5 + n ≤ ns.length ∧ ns.length ≤ 30000 ∧ (∀ z ∈ (ns.drop (i + 5)).take n, 0 ≤ z) ∧ ContI t H L s r dx a (i + 5 + n) [[2, (g : Int), (d : Int), (ty : Int)], (ns.drop (i + 5)).take n] Q
theorem ok_answer_species (T : Txt K mg t) : FnOk P w K mg base CX0 5 t.f_answer_species t.d_answer_species ["book", "reader"] (sp_answer_species t K) := by
  have GT := ok_Reader_take_number (P := P) (w := w) (base := base) T
  have GR := ok_Reader_take_row (P := P) (w := w) (base := base) T
  have GM := ok_Book_add_species (P := P) (w := w) (base := base) T
  refine T.h_answer_species.F.ok sc_answer_species (fun vs H Q E h => ?_) (fun cdv A outer s0 H vs Q E hr h => ?_)
  · obtain ⟨L, s, r, dx, a, ns, i, g, d, ty, n, rfl, _⟩ := h
    rfl
  · obtain ⟨L, s, r, dx, a, ns, i, g, d, ty, n, rfl, X, h1, h2, h3, h4, hl, hz, hpos, k⟩ := h
    refine ⟨_, pss_cons (ps_set (i := 2) sc_answer_species.nd rfl (Or.inl rfl) (pe_meth0 (pv 1) T.cl_Reader T.h_Reader_take_number.m GT (hr.mono (by decide)) T.h_Reader_take_number.b .nil pass0))
      (pss_cons (ps_set (i := 3) sc_answer_species.nd rfl (Or.inl rfl) (pe_meth0 (pv 1) T.cl_Reader T.h_Reader_take_number.m GT (hr.mono (by decide)) T.h_Reader_take_number.b .nil pass0))
      (pss_cons (ps_set (i := 4) sc_answer_species.nd rfl (Or.inl rfl) (pe_meth0 (pv 1) T.cl_Reader T.h_Reader_take_number.m GT (hr.mono (by decide)) T.h_Reader_take_number.b .nil pass0))
      (pss_cons (ps_set (i := 5) sc_answer_species.nd rfl (Or.inl rfl) (pe_meth0 (pv 1) T.cl_Reader T.h_Reader_take_row.m GR (hr.mono (by decide)) T.h_Reader_take_row.b .nil pass0))
      (pss_one (ps_ret (pe_meth (pv 0) T.cl_Book T.h_Book_add_species.m GM (hr.mono (by decide)) T.h_Book_add_species.b .nil pass0 (pa_cons (pv 2) (pa_cons (pv 5) (pa_cons (pv 3) (pa_cons (pv 4) pa_nil)))))))))), ?_⟩
    refine ⟨_, rfl, r, dx, _, rfl, X.R, rfl, r, dx, a, ns, i + 1, _, rfl, X.R, X.A.sq, h1, ?_⟩
    have X1 := X.take (i + 2)
    refine ⟨_, rfl, r, dx, _, rfl, X1.R, rfl, r, dx, a, ns, i + 2, _, rfl, X1.R, X1.A.sq, h2, ?_⟩
    rw [upd_upd]
    have X2 := X.take (i + 3)
    refine ⟨_, rfl, r, dx, _, rfl, X2.R, rfl, r, dx, a, ns, i + 3, _, rfl, X2.R, X2.A.sq, h3, ?_⟩
    rw [upd_upd]
    have X3 := X.take (i + 4)
    refine ⟨_, rfl, r, dx, _, rfl, X3.R, rfl, r, dx, a, ns, i + 4, n, rfl, X3.R, X3.A.sq, h4, hl, fun p H2 np hp hr2 hk => ?_⟩
    have hk2 : ∀ b o, H b = some o → b ≠ r → H2 b = some o := fun b o e ne => hk b o ((upd_ne ne).trans e) ne
    have npH : H p = none := by
      have ne : p ≠ r := fun z => by rw [z, upd_same] at np; cases np
      rw [upd_ne ne] at np
      exact np
    have B2 := X.B.rd X.R hk2
    obtain ⟨db, hb⟩ := B2.bk
    refine ⟨_, rfl, _, db, _, rfl, hb, rfl, _, rfl, _, rfl, _, rfl, _, rfl, L, s, p, _, g, d, ty, rfl, B2, X.W, hp, hpos, ?_, thenI X.B X.R hk2 hr2 k rfl (fun q z => by rw [z]; exact npH)⟩
    · rw [List.length_take, List.length_drop]
      exact Nat.le_trans (m := 30000) (by omega) (by decide)
end
end Ns
end
section
set_option Elab.async false
set_option linter.all false
set_option maxRecDepth 100000
set_option maxHeartbeats 2000000
namespace Ns
open PySem PySem.Spec PyProof.Rows L2
open PySem.W (Codec)
open Kct4 (Abs Genus Species Ruled Call)
theorem kindIn_at {s : Abs} {n : Nat} {y : Species} (h : s.species[n]? = some y) (W : Wf s) : s.kindOf[y.type_]? = some (Kct4.kindIn s n) := by
  have hl : y.type_ < s.kindOf.length := by rw [W.kl]; exact W.st y (List.mem_of_getElem? h)
  have e := List.getElem?_eq_getElem hl
  rw [e]
  unfold Kct4.kindIn
  rw [h]
  show some s.kindOf[y.type_] = some ((s.kindOf[y.type_]?).bind id)
  rw [e]
  rfl
theorem kindIn_lt {s : Abs} {n k : Nat} (W : Wf s) (h : Kct4.kindIn s n = some k) : k < 256 := by
  unfold Kct4.kindIn at h
  cases e : s.species[n]? with
  | none => rw [e] at h; cases h
  | some y =>
    have q := kindIn_at e W
    unfold Kct4.kindIn at q
    rw [h] at q
    exact W.kk k (List.mem_of_getElem? q)
theorem groupIn_at {s : Abs} {n k : Nat} (W : Wf s) (h : Kct4.kindIn s n = some k) : s.groupOf[k]? = some (Kct4.groupIn s n) := by
  have hl : k < s.groupOf.length := by rw [W.ol]; exact kindIn_lt W h
  have e := List.getElem?_eq_getElem hl
  rw [e]
  unfold Kct4.groupIn
  rw [h]
  show some s.groupOf[k] = some ((s.groupOf[k]?).bind id)
  rw [e]
  rfl
theorem groupIn_lt {s : Abs} {n g : Nat} (W : Wf s) (h : Kct4.groupIn s n = some g) : g < 64 := by
  cases e : Kct4.kindIn s n with
  | none => unfold Kct4.groupIn at h; rw [e] at h; cases h
  | some k =>
    have q := groupIn_at W e
    rw [h] at q
    exact W.oo g (List.mem_of_getElem? q)
theorem encK_256 {o : Option Nat} (h : ∀ k, o = some k → k < 256) : decide (encK o = V.int 256) = o.isNone := by
  cases o with
  | none => rfl
  | some k =>
    have hk := h k rfl
    exact decide_eq_false (fun z => by injection z with z; omega)
theorem encG_64 {o : Option Nat} (h : ∀ k, o = some k → k < 64) : decide (encG o = V.int 64) = o.isNone := by
  cases o with
  | none => rfl
  | some k =>
    have hk := h k rfl
    exact decide_eq_false (fun z => by injection z with z; omega)
theorem scal_encK (o : Option Nat) (i : Int) : scal (encK o) (.int i) = true := by cases o <;> rfl
theorem scal_encG (o : Option Nat) (i : Int) : scal (encG o) (.int i) = true := by cases o <;> rfl
section
variable {P : Program} {w : World} {K : PySem.W.Frag} {mg : Str → Option Value} {base : Heap} {t : Adr}
def sp_Book_kind_of_species (t : Adr) : Sp := fun vs H Q _ => ∃ (L : BL) (s : Abs) (n : Nat), vs = [.ref L.b, .int (n : Int)] ∧ BookAt t H L s ∧ Wf s ∧ n < s.species.length ∧ Q (encK (Kct4.kindIn s n)) H
theorem ok_Book_kind_of_species (T : Txt K mg t) : FnOk P w K mg base CX0 1 t.f_Book_kind_of_species t.d_Book_kind_of_species ["self", "species"] (sp_Book_kind_of_species t) := by
  refine T.h_Book_kind_of_species.F.ok sc_Book_kind_of_species (fun vs H Q E h => ?_) (fun cdv A outer s0 H vs Q E hr h => ?_)
  · obtain ⟨L, s, n, rfl, _⟩ := h
    rfl
  · obtain ⟨L, s, n, rfl, B, W, hn, k⟩ := h
    refine ⟨_, pss_one (ps_ret (pe_ix ix_list (pe_fld (pv 0) rfl) (pe_fld (pe_ix ix_list (pe_fld (pv 0) rfl) (pv 1) (fun _ _ => rfl)) rfl) (fun _ _ => rfl))), ?_⟩
    obtain ⟨db, hb⟩ := B.bk
    have ey := List.getElem?_eq_getElem hn
    obtain ⟨q, dq, _, q2, q3, _⟩ := B.spcRef ey
    have hk : (s.kindOf.map encK)[s.species[n].type_]? = some (encK (Kct4.kindIn s n)) := by rw [List.getElem?_map, kindIn_at ey W]; rfl
    exact ⟨_, rfl, _, _, db, _, _, rfl, hb, T.cl_Book, T.n_Book_kinds, bk_knd L, _, rfl, _, _, db, _, _, rfl, hb, T.cl_Book, T.n_Book_species, bk_spc L, _, rfl, _, _, _, _, rfl, rfl, SqL.of B.ls, atI_nat q2,
      _, _, dq, _, _, rfl, q3, T.cl_Species, T.n_Species_specimen, sf_specimen _ _, _, _, _, _, rfl, rfl, SqL.of B.lk, atI_nat hk, k⟩
def sp_Book_group_of_species (t : Adr) : Sp := fun vs H Q _ => ∃ (L : BL) (s : Abs) (n : Nat), vs = [.ref L.b, .int (n : Int)] ∧ BookAt t H L s ∧ Wf s ∧ n < s.species.length ∧ Q (encG (Kct4.groupIn s n)) H
theorem ok_Book_group_of_species (T : Txt K mg t) : FnOk P w K mg base CX0 2 t.f_Book_group_of_species t.d_Book_group_of_species ["self", "species"] (sp_Book_group_of_species t) := by
  have G1 := ok_Book_kind_of_species (P := P) (w := w) (base := base) T
  refine T.h_Book_group_of_species.F.ok sc_Book_group_of_species (fun vs H Q E h => ?_) (fun cdv A outer s0 H vs Q E hr h => ?_)
  · obtain ⟨L, s, n, rfl, _⟩ := h
    rfl
  · obtain ⟨L, s, n, rfl, B, W, hn, k⟩ := h
    obtain ⟨k1, c1⟩ := T.c_NO_GROUP
    obtain ⟨k2, c2⟩ := T.c_NO_KIND
    refine ⟨_, pss_cons (ps_set (i := 2) sc_Book_group_of_species.nd rfl (Or.inl rfl) (pe_meth (pv 0) T.cl_Book T.h_Book_kind_of_species.m G1 hr T.h_Book_kind_of_species.b .nil pass0 (pa_cons (pv 1) pa_nil)))
      (pss_one (ps_ret (pe_ifExp (pt_cmpR op_eq (pv 2) (pe_glob rfl c2 (v := .int 256) ⟨k2, rfl⟩) (nomark _)) (pe_glob rfl c1 (v := .int 64) ⟨k1, rfl⟩) (pe_ix ix_list (pe_fld (pv 0) rfl) (pv 2) (fun _ _ => rfl))))), ?_⟩
    obtain ⟨db, hb⟩ := B.bk
    refine ⟨_, rfl, _, db, _, rfl, hb, rfl, _, rfl, L, s, n, rfl, B, W, hn, ?_⟩
    refine ⟨_, rfl, scal_encK _ _, _, rfl, ?_⟩
    rw [encK_256 (fun k e => kindIn_lt W e)]
    cases e : Kct4.kindIn s n with
    | none =>
      refine iteT ?_
      have eg : Kct4.groupIn s n = none := by unfold Kct4.groupIn; rw [e]; rfl
      rw [eg] at k
      exact k
    | some kd =>
      refine iteF ?_
      have hg : (s.groupOf.map encG)[kd]? = some (encG (Kct4.groupIn s n)) := by rw [List.getElem?_map, groupIn_at W e]; rfl
      exact ⟨_, rfl, _, _, db, _, _, rfl, hb, T.cl_Book, T.n_Book_groups, bk_grp L, _, rfl, _, _, _, _, rfl, rfl, SqL.of B.lo, atI_nat hg, k⟩
def sp_Book_group_of_genus (t : Adr) : Sp := fun vs H Q _ => ∃ (L : BL) (s : Abs) (n : Nat), vs = [.ref L.b, .int (n : Int)] ∧ BookAt t H L s ∧ Wf s ∧ n < s.genera.length ∧ Q (encG (Kct4.groupOfGenus s n)) H
theorem ok_Book_group_of_genus (T : Txt K mg t) : FnOk P w K mg base CX0 3 t.f_Book_group_of_genus t.d_Book_group_of_genus ["self", "genus"] (sp_Book_group_of_genus t) := by
  have G1 := ok_Book_group_of_species (P := P) (w := w) (base := base) T
  refine T.h_Book_group_of_genus.F.ok sc_Book_group_of_genus (fun vs H Q E h => ?_) (fun cdv A outer s0 H vs Q E hr h => ?_)
  · obtain ⟨L, s, n, rfl, _⟩ := h
    rfl
  · obtain ⟨L, s, n, rfl, B, W, hn, k⟩ := h
    obtain ⟨k1, c1⟩ := T.c_NO_GROUP
    refine ⟨_, pss_cons (ps_set (i := 2) sc_Book_group_of_genus.nd rfl (Or.inl rfl) (pe_fld (pe_ix ix_list (pe_fld (pv 0) rfl) (pv 1) (fun _ _ => rfl)) rfl))
      (pss_one (ps_ret (pe_ifExp (pt_cmpR op_isN (pv 2) pe_non (nomark _)) (pe_glob rfl c1 (v := .int 64) ⟨k1, rfl⟩) (pe_meth (pv 0) T.cl_Book T.h_Book_group_of_species.m G1 hr T.h_Book_group_of_species.b .nil pass0 (pa_cons (pv 2) pa_nil))))), ?_⟩
    obtain ⟨db, hb⟩ := B.bk
    have ex := List.getElem?_eq_getElem hn
    obtain ⟨p, dp, p1, p2, p3, p4⟩ := B.genRef ex
    refine ⟨_, rfl, _, _, db, _, _, rfl, hb, T.cl_Book, T.n_Book_genera, bk_gen L, _, rfl, _, _, _, _, rfl, rfl, SqL.of B.lg, atI_nat p2, _, _, dp, _, _, rfl, p3, T.cl_Genus, T.n_Genus_anchor, gf_anchor _ _, ?_⟩
    refine ⟨_, rfl, rfl, _, rfl, ?_⟩
    have eg : Kct4.groupOfGenus s n = s.genera[n].type_.bind (Kct4.groupIn s) := by unfold Kct4.groupOfGenus; rw [ex]; rfl
    rw [eg] at k
    cases e : s.genera[n].type_ with
    | none =>
      rw [e] at k
      exact iteT k
    | some m =>
      rw [e] at k
      refine iteF ?_
      exact ⟨_, rfl, _, db, _, rfl, hb, rfl, _, rfl, L, s, m, rfl, B, W, W.gt _ (List.getElem_mem hn) m e, k⟩
end
end Ns
end
section
set_option Elab.async false
set_option linter.all false
set_option maxRecDepth 100000
set_option maxHeartbeats 2000000
namespace Ns
open PySem PySem.Spec PyProof.Rows L2
open PySem.W (Codec)
open Kct4 (Abs Genus Species Ruled Call)
def rsG (s : Abs) (i : Nat) : Int := match s.genera[i]? with | some x => (rulN x.ruled : Int) | none => 0
def dsG (s : Abs) (i : Nat) : Int := match s.genera[i]? with | some x => (x.day : Int) | none => 0
def rsS (s : Abs) (i : Nat) : Int := match s.species[i]? with | some x => (rulN x.ruled : Int) | none => 0
def dsS (s : Abs) (i : Nat) : Int := match s.species[i]? with | some x => (x.day : Int) | none => 0
theorem kc_rul (r : Ruled) : kcOf (rulN r : Int) = (pk r : Int) := by cases r <;> rfl
theorem ltG {s : Abs} {i j : Nat} (h : Kct4.genusBefore s i j = true) : lt3 (fun i => kcOf (rsG s i)) (dsG s) i j := by
  unfold Kct4.genusBefore at h
  unfold lt3 rsG dsG
  cases ei : s.genera[i]? <;> cases ej : s.genera[j]? <;> rw [ei, ej] at h <;> first | cases h | skip
  have h := (prior_iff ..).mp h
  simp only [ei, ej, kc_rul]
  omega
theorem ltS {s : Abs} {i j : Nat} (h : Kct4.speciesBefore s i j = true) : lt3 (fun i => kcOf (rsS s i)) (dsS s) i j := by
  unfold Kct4.speciesBefore at h
  unfold lt3 rsS dsS
  cases ei : s.species[i]? <;> cases ej : s.species[j]? <;> rw [ei, ej] at h <;> first | cases h | skip
  have h := (prior_iff ..).mp h
  simp only [ei, ej, kc_rul]
  omega
theorem SameB.of {t : Adr} {H H' : Hp} (s : Same H H') : SameB t H H' := fun b o e _ => s b o e
theorem SameB.trans {t : Adr} {H H1 H2 : Hp} (a : SameB t H H1) (b : SameB t H1 H2) : SameB t H H2 := fun c o e hc => b c o (a c o e hc) hc
theorem SameB.upd {t : Adr} {H H' : Hp} {D : Addr} {o : HO} (s : SameB t H H') (n : H D = none) : SameB t H (L2.upd H' D o) := fun b u e hb => by
  rw [upd_ne (ne_of_none e n)]
  exact s b u e hb
theorem TabOk.upd {Pt : Addr} {q : Str} {pos : Pos} {H : Hp} {D : Addr} {o u : HO} (x : TabOk Pt q pos H) (h : H D = some u) (h1 : ∀ ps, u ≠ .tbl ps) (h2 : ∀ φ, u ≠ .ext φ) : TabOk Pt q pos (L2.upd H D o) := by
  obtain ⟨ps, e1, e2⟩ := x
  refine ⟨ps, ?_, ?_⟩
  · rw [upd_ne (ne_of e1 h (fun z => h1 _ z.symm))]; exact e1
  · rcases e2 with e2 | ⟨c, e2, e3⟩
    · exact .inl e2
    · exact .inr ⟨c, e2, by rw [upd_ne (ne_of e3 h (fun z => h2 _ z.symm))]; exact e3⟩
theorem BookAt.sameB {t : Adr} {H H' : Hp} {L : BL} {s : Abs} (B : BookAt t H L s) (T : Tab t H) (k : SameB t H H') : BookAt t H' L s := by
  obtain ⟨ps, hP, _⟩ := T
  exact B.stay fun p o hin e => k p o e fun z => B.notT hP (z ▸ hin)
section
variable {P : Program} {w : World} {K : PySem.W.Frag} {mg : Str → Option Value} {base : Heap} {t : Adr}
def sp_byG (t : Adr) : Sp := fun vs H Q _ => ∃ (L : BL) (s : Abs), vs = [.ref L.lg] ∧ BookAt t H L s ∧ Wf s ∧ Tab t H ∧ ∀ (l : Addr) (H' : Hp) (od : List Nat), H l = none → SameB t H H' → Tab t H' → H' l = some (.lst (natsV od)) → InOrd (Kct4.genusBefore s) s.genera.length od → Q (.ref l) H'
theorem ok_byG (T : Txt K mg t) (hB : BaseB mg base) : FnOk P w K mg base CX0 8 t.f_by_priority t.d_by_priority ["names"] (sp_byG t) := by
  refine (ok_by_priority (P := P) (w := w) T hB).imp fun vs H Q E h => ?_
  obtain ⟨L, s, rfl, B, W, hT, k⟩ := h
  have el : (L.gs.map fun p => p.1).length = s.genera.length := by rw [List.length_map, B.gl]
  refine ⟨L.lg, L.gs.map fun p => p.1, rsG s, dsG s, rfl, by rw [List.map_map]; exact B.lg, by rw [el]; have := W.gl; omega, hT, fun i p hp => ?_, fun l H' out hl sm hT' hl2 o1 o2 => ?_⟩
  · have hi : i < s.genera.length := by rw [← el]; exact (List.getElem?_eq_some_iff.mp hp).1
    have ex := List.getElem?_eq_getElem hi
    obtain ⟨q, dx, q1, _, q3, _⟩ := B.genRef ex
    rw [List.getElem?_map, q1] at hp
    have e : q.1 = p := Option.some.inj hp
    subst e
    refine ⟨t.C_Genus, dx, _, q3, T.cl_Genus, T.n_Genus_ruling, T.n_Genus_day, ?_, ?_⟩
    · rw [gf_ruling]; unfold rsG; rw [ex]
    · rw [gf_day]; unfold dsG; rw [ex]
  · rw [el] at o1
    exact k l H' out hl sm hT' hl2 (InOrd.of (ordG s) o1 o2 fun i j _ _ h => ltG h)
def sp_byS (t : Adr) : Sp := fun vs H Q _ => ∃ (L : BL) (s : Abs), vs = [.ref L.ls] ∧ BookAt t H L s ∧ Wf s ∧ Tab t H ∧ ∀ (l : Addr) (H' : Hp) (od : List Nat), H l = none → SameB t H H' → Tab t H' → H' l = some (.lst (natsV od)) → InOrd (Kct4.speciesBefore s) s.species.length od → Q (.ref l) H'
theorem ok_byS (T : Txt K mg t) (hB : BaseB mg base) : FnOk P w K mg base CX0 8 t.f_by_priority t.d_by_priority ["names"] (sp_byS t) := by
  refine (ok_by_priority (P := P) (w := w) T hB).imp fun vs H Q E h => ?_
  obtain ⟨L, s, rfl, B, W, hT, k⟩ := h
  have el : (L.ss.map fun p => p.1).length = s.species.length := by rw [List.length_map, B.sl]
  refine ⟨L.ls, L.ss.map fun p => p.1, rsS s, dsS s, rfl, by rw [List.map_map]; exact B.ls, by rw [el]; have := W.sl; omega, hT, fun i p hp => ?_, fun l H' out hl sm hT' hl2 o1 o2 => ?_⟩
  · have hi : i < s.species.length := by rw [← el]; exact (List.getElem?_eq_some_iff.mp hp).1
    have ex := List.getElem?_eq_getElem hi
    obtain ⟨q, dx, q1, _, q3, _⟩ := B.spcRef ex
    rw [List.getElem?_map, q1] at hp
    have e : q.1 = p := Option.some.inj hp
    subst e
    refine ⟨t.C_Species, dx, _, q3, T.cl_Species, T.n_Species_ruling, T.n_Species_day, ?_, ?_⟩
    · rw [sf_ruling]; unfold rsS; rw [ex]
    · rw [sf_day]; unfold dsS; rw [ex]
  · rw [el] at o1
    exact k l H' out hl sm hT' hl2 (InOrd.of (ordS s) o1 o2 fun i j _ _ h => ltS h)
def wkey (w : List Nat) : List Key := w.map fun (n : Nat) => Sum.inl (n : Int)
theorem wkey_V (w : List Nat) : (wkey w).map kV = wordV w := by
  unfold wkey wordV
  rw [List.map_map]
  rfl
theorem wkey_inj : ∀ {u v : List Nat}, wkey u = wkey v → u = v
  | [], [], _ => rfl
  | [], _ :: _, h => by cases h
  | _ :: _, [], h => by cases h
  | a :: u, b :: v, h => by
    injection h with h1 h2
    have e : (a : Int) = (b : Int) := Sum.inl.inj h1
    rw [wkey_inj h2, show a = b by omega]
theorem rul_one (r : Ruled) : decide (V.int (rulN r : Int) = V.int 1) = (r == .rejected) := by cases r <;> rfl
theorem genRej {s : Abs} {n : Nat} {x : Genus} (h : s.genera[n]? = some x) : Kct4.genusRejected s n = (x.ruled == .rejected) := by unfold Kct4.genusRejected; rw [h]; rfl
theorem genWord {s : Abs} {n : Nat} {x : Genus} (h : s.genera[n]? = some x) : Kct4.genusWord s n = x.word := by unfold Kct4.genusWord; rw [h]; rfl
theorem natsV_get {od : List Nat} {i : Nat} {x : V} (h : (natsV od)[i]? = some x) : ∃ n, od[i]? = some n ∧ x = .int (n : Int) := by
  unfold natsV at h
  rw [List.getElem?_map] at h
  cases e : od[i]? with
  | none => rw [e] at h; cases h
  | some n => rw [e] at h; exact ⟨n, rfl, (Option.some.inj h).symm⟩
theorem take_next {od : List Nat} {i n : Nat} (h : od[i]? = some n) : od.take (i + 1) = od.take i ++ [n] ∧ od = od.take i ++ n :: od.drop (i + 1) := by
  have hi := (List.getElem?_eq_some_iff.mp h).1
  have e := (List.getElem?_eq_some_iff.mp h).2
  refine ⟨by rw [List.take_add_one, h]; rfl, ?_⟩
  rw [← e, List.getElem_cons_drop, List.take_append_drop]
def NumD (f : Nat → Option Nat) (kvs : List (Key × V)) : Prop := ∀ g : Nat, valV kvs (Sum.inl (g : Int)) = (f g).map fun (n : Nat) => V.int (n : Int)
def gpred (s : Abs) (g : Nat) (n : Nat) : Bool := Kct4.genusGood s n && Kct4.groupOfGenus s n == some g
def sp_find_group_names (t : Adr) : Sp := fun vs H Q _ => ∃ (L : BL) (s : Abs), vs = [.ref L.b] ∧ BookAt t H L s ∧ Wf s ∧ Tab t H ∧ ∀ (d : Addr) (H' : Hp) (kvs : List (Key × V)), H d = none → SameB t H H' → Tab t H' → H' d = some (.dK kvs) → NumD (Kct4.genusName s) kvs → Q (.ref d) H'
def GnI (t : Adr) (H : Hp) (L : BL) (s : Abs) (od : List Nat) (l dg dn : Addr) (i : Nat) (σ : L2.St) (H' : Hp) : Prop := ∃ (v3 v4 v5 : Option V) (gws : List (List Key × V)) (nms : List (Key × V)), σ = [some (.ref L.b), some (.ref dg), some (.ref dn), v3, v4, v5] ∧ SameB t H H' ∧ Tab t H' ∧ H' l = some (.lst (natsV od)) ∧ H' dg = some (.dT gws) ∧ H' dn = some (.dK nms) ∧
  gws.length ≤ i ∧ nms.length ≤ i ∧ (∀ u : List Nat, (valV gws (wkey u)).isSome = true ↔ u ∈ ((od.take i).filter (Kct4.genusGood s)).map (Kct4.genusWord s)) ∧ NumD (fun g => (od.take i).find? (gpred s g)) nms
theorem ok_find_group_names (T : Txt K mg t) (hB : BaseB mg base) : FnOk P w K mg base CX0 9 t.f_find_group_names t.d_find_group_names ["book"] (sp_find_group_names t) := by
  have G1 := ok_byG (P := P) (w := w) T hB
  have G2 := ok_Book_group_of_genus (P := P) (w := w) (base := base) T
  refine T.h_find_group_names.F.ok sc_find_group_names (fun vs H Q E h => ?_) (fun cdv A outer s0 H vs Q E hr h => ?_)
  · obtain ⟨L, s, rfl, _⟩ := h
    rfl
  · obtain ⟨L, s, rfl, B, W, hT, k⟩ := h
    obtain ⟨k1, c1⟩ := T.c_REJECTED
    obtain ⟨k2, c2⟩ := T.c_NO_GROUP
    have hu := hu_of hr
    have nd := sc_find_group_names.nd
    refine ⟨_, pss_cons (ps_set (i := 1) nd rfl (Or.inl rfl) pe_dnewT) (pss_cons (ps_set (i := 2) nd rfl (Or.inl rfl) pe_dnewK)
      (pss_cons (ps_for PassesOwn.never rfl (pi_list (pe_call G1 hr rfl T.h_by_priority.m T.h_by_priority.F.kp T.h_by_priority.b .nil pass0 (pa_cons (pe_fld (pv 0) rfl) pa_nil))) (pg_name (i := 3) nd rfl (Or.inl rfl))
        (pss_cons (ps_set (i := 4) nd rfl (Or.inl rfl) (pe_ix ix_list (pe_fld (pv 0) rfl) (pv 3) (fun _ _ => rfl)))
        (pss_cons (ps_if (PW.pt (pw_or (pt_cmpR op_eq (pe_fld (pv 4) rfl) (pe_glob rfl c1 (v := .int 1) ⟨k1, rfl⟩) (nomark _)) (pw_or1 (pt_cmp (pc_din hu (pe_fld (pv 4) rfl) (pv 1)))))) (pss_one ps_continue) pss_nil)
        (pss_cons (ps_dput hu (pv 1) (pe_fld (pv 4) rfl) pe_bl rfl)
        (pss_cons (ps_set (i := 5) nd rfl (Or.inl rfl) (pe_meth (pv 0) T.cl_Book T.h_Book_group_of_genus.m G2 (hr.mono (by decide)) T.h_Book_group_of_genus.b .nil pass0 (pa_cons (pv 3) pa_nil)))
        (pss_one (ps_if (PW.pt (pw_and (pt_cmpR op_ne (pv 5) (pe_glob rfl c2 (v := .int 64) ⟨k2, rfl⟩) (nomark _)) (pw_and1 (pt_cmp (pc_dnotin hu (pv 5) (pv 2)))))) (pss_one (ps_dput hu (pv 2) (pv 5) (pv 3) rfl)) pss_nil)))))))
      (pss_one (ps_ret (pv 2))))), ?_⟩
    obtain ⟨db, hb⟩ := B.bk
    refine fun dg ndg => fun dn ndn => ?_
    have sm1 : Same H (upd (upd H dg (.dT [])) dn (.dK [])) := fun b o e => Same.new0 ndn _ _ (Same.new0 ndg _ _ e)
    have nbd : dg ≠ dn := ne_of_none upd_same ndn
    have nHn : H dn = none := by rw [upd_ne (Ne.symm nbd)] at ndn; exact ndn
    have B1 := B.same sm1
    have T1 : Tab t (upd (upd H dg (.dT [])) dn (.dK [])) := TabOk.keep hT sm1
    have hg1 : upd (upd H dg (.dT [])) dn (.dK []) dg = some (.dT []) := (upd_ne nbd).trans upd_same
    obtain ⟨db1, hb1⟩ := B1.bk
    refine ⟨_, rfl, _, _, db1, _, _, rfl, hb1, T.cl_Book, T.n_Book_genera, bk_gen L, L, s, rfl, B1, W, T1, fun l H2 od nl sm2 T2 hl2 O => ⟨l, rfl, ⟨_, SqL.of hl2⟩, ?_⟩⟩
    have ndgP : dg ≠ t.P_bp := by
      obtain ⟨ps, hP, _⟩ := hT
      exact (ne_of_none hP ndg).symm
    have ndnP : dn ≠ t.P_bp := by
      obtain ⟨ps, hP, _⟩ := hT
      exact (ne_of_none hP nHn).symm
    have nHl : H l = none := Same.free sm1 nl
    have ol := O.len
    refine for_list (xs := natsV od) (GnI t H L s od l dg dn)
      ⟨none, none, none, [], [], rfl, (SameB.of sm1).trans sm2, T2, hl2, sm2 _ _ hg1 ndgP, sm2 _ _ upd_same ndnP, Nat.le_refl _, Nat.le_refl _, fun u => by simp [valV_nil], fun g => rfl⟩ ?_ ?_ ?_
    · rintro i σ H' _ ⟨v3, v4, v5, gws, nms, _, _, _, h, _⟩
      exact SqL.of h
    · rintro i x σ H3 hx ⟨v3, v4, v5, gws, nms, rfl, sm3, T3, hl3, hg3, hn3, z1, z2, iv1, iv2⟩
      have iv2 : ∀ g : Nat, valV nms (Sum.inl (g : Int)) = ((od.take i).find? (gpred s g)).map fun (n : Nat) => V.int (n : Int) := iv2
      obtain ⟨n, hn, rfl⟩ := natsV_get hx
      obtain ⟨et, eo⟩ := take_next hn
      have O' := O
      rw [eo] at O'
      have hnl : n < s.genera.length := O.lt (List.mem_of_getElem? hn)
      have hil : i < od.length := (List.getElem?_eq_some_iff.mp hn).1
      have B3 := B.sameB hT sm3
      obtain ⟨db3, hb3⟩ := B3.bk
      have ex := List.getElem?_eq_getElem hnl
      generalize s.genera[n] = x at ex
      obtain ⟨p, dp, p1, p2, p3, p4⟩ := B3.genRef ex
      have hp4 : H3 p.2 = some (.tup ((wkey x.word).map kV)) := by rw [wkey_V]; exact p4
      have er := genRej ex
      have ew := genWord ex
      refine ⟨_, rfl, _, _, db3, _, _, rfl, hb3, T.cl_Book, T.n_Book_genera, bk_gen L, _, rfl, _, _, _, _, rfl, rfl, SqL.of B3.lg, atI_nat p2, ?_⟩
      refine ⟨_, rfl, _, _, dp, _, _, rfl, p3, T.cl_Genus, T.n_Genus_ruling, gf_ruling _ _, rfl, _, rfl, ?_⟩
      rw [rul_one, ← er]
      have bad : Kct4.genusGood s n = false → GnI t H L s od l dg dn (i + 1) [some (V.ref L.b), some (.ref dg), some (.ref dn), some (.int (n : Int)), some (.ref p.1), v5] H3 := fun hb => by
        refine ⟨_, _, _, gws, nms, rfl, sm3, T3, hl3, hg3, hn3, by omega, by omega, fun u => ?_, fun g => ?_⟩
        · rw [et, List.filter_append, List.filter_cons, if_neg (by rw [hb]; exact Bool.false_ne_true), List.filter_nil, List.append_nil]
          exact iv1 u
        · show valV nms (Sum.inl (g : Int)) = ((od.take (i + 1)).find? (gpred s g)).map fun (n : Nat) => V.int (n : Int)
          rw [iv2 g, et, List.find?_append]
          have e : gpred s g n = false := by unfold gpred; rw [hb, Bool.false_and]
          rw [List.find?_cons, e, List.find?_nil, Option.or_none]
      cases hrej : Kct4.genusRejected s n with
      | true =>
        refine iteT (iteT (bad ?_))
        unfold Kct4.genusGood
        rw [hrej]
        rfl
      | false =>
        refine iteF ⟨_, rfl, _, _, dp, _, _, rfl, p3, T.cl_Genus, T.n_Genus_word, gf_word _ _, _, rfl, dg, _, rfl, DGet.t hg3 hp4, _, rfl, ?_⟩
        have hom := good_genus O'
        rw [ew] at hom
        have hom2 : (valV gws (wkey x.word)).isSome = true ↔ Kct4.genusHomonym s n = true := (iv1 x.word).trans hom.symm
        cases hin : (valV gws (wkey x.word)).isSome with
        | true =>
          refine iteT (bad ?_)
          unfold Kct4.genusGood
          rw [hom2.mp hin, hrej]
          rfl
        | false =>
          refine iteF ?_
          have hgood : Kct4.genusGood s n = true := (genusGood_iff s n).mpr ⟨hrej, fun z => by rw [hom2.mpr z] at hin; cases hin⟩
          have hnone : valV gws (wkey x.word) = none := by
            cases q : valV gws (wkey x.word) with
            | none => rfl
            | some v => rw [q] at hin; cases hin
          have gl : gws.length < sizeLine := line_of_small (by have := W.gl; omega)
          refine ⟨_, rfl, _, rfl, _, _, dp, _, _, rfl, p3, T.cl_Genus, T.n_Genus_word, gf_word _ _, dg, _, rfl, DPut.t hg3 hp4 gl, ?_⟩
          have T4 : Tab t (upd H3 dg (.dT (putK gws (wkey x.word) (.bl true)))) := TabOk.upd T3 hg3 (fun _ z => nomatch z) (fun _ z => nomatch z)
          have sm4 : SameB t H (upd H3 dg (.dT (putK gws (wkey x.word) (.bl true)))) := sm3.upd ndg
          have hl4 : upd H3 dg (.dT (putK gws (wkey x.word) (.bl true))) l = some (.lst (natsV od)) := (upd_ne (ne_of hl3 hg3 (by intro z; cases z))).trans hl3
          have hn4 : upd H3 dg (.dT (putK gws (wkey x.word) (.bl true))) dn = some (.dK nms) := (upd_ne (Ne.symm nbd)).trans hn3
          have B4 := B.sameB hT sm4
          obtain ⟨db4, hb4⟩ := B4.bk
          have iv1' : ∀ u : List Nat, (valV (putK gws (wkey x.word) (.bl true)) (wkey u)).isSome = true ↔ u ∈ ((od.take (i + 1)).filter (Kct4.genusGood s)).map (Kct4.genusWord s) := fun u => by
            rw [valV_put, et, List.filter_append, List.filter_cons, if_pos hgood, List.filter_nil, List.map_append, List.mem_append, List.map_cons, List.map_nil, List.mem_singleton, ew]
            by_cases e : wkey u = wkey x.word
            · rw [if_pos e]
              exact ⟨fun _ => .inr (wkey_inj e), fun _ => rfl⟩
            · rw [if_neg e, iv1 u]
              exact ⟨.inl, fun z => z.elim id fun q => absurd (by rw [q]) e⟩
          have zl : (putK gws (wkey x.word) (.bl true)).length ≤ i + 1 := Nat.le_trans (length_putK _ _ _) (by omega)
          refine ⟨_, rfl, _, db4, _, rfl, hb4, rfl, _, rfl, L, s, n, rfl, B4, W, hnl, ?_⟩
          have hgl : ∀ g, Kct4.groupOfGenus s n = some g → g < 64 := fun g e => by
            unfold Kct4.groupOfGenus at e
            rw [ex] at e
            cases q : x.type_ with
            | none => have e : ((some x).bind Genus.type_).bind (Kct4.groupIn s) = some g := e; simp [q] at e
            | some m =>
              have e : ((some x).bind Genus.type_).bind (Kct4.groupIn s) = some g := e
              simp [q] at e
              exact groupIn_lt W e
          have step : ∀ g, (od.take (i + 1)).find? (gpred s g) = ((od.take i).find? (gpred s g)).or (if Kct4.groupOfGenus s n = some g then some n else none) := fun g => by
            rw [et, List.find?_append, List.find?_cons, List.find?_nil]
            have e : gpred s g n = decide (Kct4.groupOfGenus s n = some g) := by
              unfold gpred
              rw [hgood, Bool.true_and]
              by_cases z : Kct4.groupOfGenus s n = some g
              · rw [z, decide_eq_true rfl, beq_self_eq_true]
              · rw [decide_eq_false z]
                cases q : (Kct4.groupOfGenus s n == some g) with
                | false => rfl
                | true => exact absurd (eq_of_beq q) z
            rw [e]
            by_cases z : Kct4.groupOfGenus s n = some g
            · rw [decide_eq_true z, if_pos z]
            · rw [decide_eq_false z, if_neg z]
          have done : ∀ (H5 : Hp) (nms' : List (Key × V)), SameB t H H5 → Tab t H5 → H5 l = some (.lst (natsV od)) → H5 dg = some (.dT (putK gws (wkey x.word) (.bl true))) → H5 dn = some (.dK nms') → nms'.length ≤ i + 1 → NumD (fun g => (od.take (i + 1)).find? (gpred s g)) nms' → ∀ v5', GnI t H L s od l dg dn (i + 1) [some (V.ref L.b), some (.ref dg), some (.ref dn), some (.int (n : Int)), some (.ref p.1), v5'] H5 :=
            fun H5 nms' a1 a2 a3 a4 a5 a6 a7 v5' => ⟨_, _, _, _, nms', rfl, a1, a2, a3, a4, a5, zl, a6, iv1', a7⟩
          refine ⟨_, rfl, scal_encG _ _, _, rfl, ?_⟩
          rw [encG_64 hgl]
          cases hgr : Kct4.groupOfGenus s n with
          | none =>
            refine iteF (iteF ?_)
            refine done _ nms sm4 T4 hl4 upd_same hn4 (by omega) (fun g => ?_) _
            show valV nms (Sum.inl (g : Int)) = ((od.take (i + 1)).find? (gpred s g)).map fun (n : Nat) => V.int (n : Int)
            rw [iv2 g, step g, hgr, if_neg (fun z => nomatch z), Option.or_none]
          | some g =>
            refine iteT ?_
            refine ⟨_, rfl, _, rfl, dn, _, rfl, DGet.k (k := Sum.inl (g : Int)) hn4, _, rfl, ?_⟩
            have hv := iv2 g
            cases hf : (od.take i).find? (gpred s g) with
            | some m =>
              rw [hf] at hv
              rw [hv]
              refine iteF ?_
              refine done _ nms sm4 T4 hl4 upd_same hn4 (by omega) (fun g' => ?_) _
              show valV nms (Sum.inl (g' : Int)) = ((od.take (i + 1)).find? (gpred s g')).map fun (n : Nat) => V.int (n : Int)
              rw [iv2 g', step g', hgr]
              by_cases z : g = g'
              · subst z
                rw [hf]
                rfl
              · rw [if_neg (fun q => z (Option.some.inj q)), Option.or_none]
            | none =>
              rw [hf] at hv
              rw [hv]
              refine iteT ?_
              refine ⟨_, rfl, _, rfl, _, rfl, dn, _, rfl, DPut.k (k := Sum.inl (g : Int)) hn4 (line_of_small (by have := W.gl; omega)), ?_⟩
              refine done _ _ (sm4.upd nHn) (TabOk.upd T4 hn4 (fun _ z => nomatch z) (fun _ z => nomatch z)) ((upd_ne (ne_of hl4 hn4 (by intro z; cases z))).trans hl4) ((upd_ne nbd).trans upd_same) upd_same (Nat.le_trans (length_putK _ _ _) (by omega)) (fun g' => ?_) _
              show valV (putK nms (Sum.inl (g : Int)) (.int (n : Int))) (Sum.inl (g' : Int)) = ((od.take (i + 1)).find? (gpred s g')).map fun (n : Nat) => V.int (n : Int)
              rw [valV_put, step g', hgr]
              by_cases z : g = g'
              · subst z
                rw [if_pos rfl, hf, if_pos rfl]
                rfl
              · rw [if_neg (fun q => z (by have q := Sum.inl.inj q; omega)), if_neg (fun q => z (Option.some.inj q)), Option.or_none]
                exact iv2 g'
    · rintro σ H' ⟨v3, v4, v5, gws, nms, rfl, sm3, T3, hl3, hg3, hn3, z1, z2, iv1, iv2⟩
      refine ⟨_, rfl, k dn H' nms nHn sm3 T3 hn3 fun g => ?_⟩
      have hlen : (natsV od).length = od.length := List.length_map _
      rw [hlen, List.take_length] at iv2
      rw [iv2 g]
      show (od.find? (gpred s g)).map _ = _
      rw [show od.find? (gpred s g) = Kct4.genusName s g from genusName_first O g]
end
end Ns
end
section
set_option Elab.async false
set_option linter.all false
set_option maxRecDepth 100000
set_option maxHeartbeats 2000000
namespace Ns
open PySem PySem.Spec PyProof.Rows L2
open PySem.W (Codec)
open Kct4 (Abs Genus Species Ruled Call)
def tDSet (td ty tx : TE) : TE := fun σ H Q => td σ H fun x H1 => ∃ a, x = .ref a ∧ IsD H1 a ∧ ty σ H1 fun y H2 => tx σ H2 fun z H3 => ∃ kvs k, H3 a = some (.dK kvs) ∧ y = kV k ∧ kvs.length < sizeLine ∧
  (∀ v, valV kvs k = some v → Q v H3) ∧ (valV kvs k = none → Q z (upd H3 a (.dK (putK kvs k z))))
theorem pe_dset {X : Cx} {o e f : Expr} {td ty tx : TE} {apos cpos : Pos} (ho : PE X o td) (he : PE X e ty) (hf : PE X f tx) (m : M2 X o "setdefault" apos e f cpos) : PE X (.Call (.Attribute o "setdefault" apos) [e, f] [] cpos) (tDSet td ty tx) := by
  intro pins s σ H Q I h
  refine wpAny_Call_method m.base m.few m.line PySem.F.plainAttrs_dict PySem.F.slot_dict_setdefault PySem.F.type_dict_setdefault (thn (ho pins s σ H _ I h) fun u s1 ⟨x, H1, I1, rx, a, ex, d, q1⟩ => ?_)
  subst ex
  obtain rfl : u = Value.ref a := rx
  obtain ⟨t1, t2, _⟩ := isD_at I1 d
  refine ⟨t1, t2, ?_⟩
  rw [m.trees]
  refine Calls.callWith_builtin rfl (Calls.evalArgs_plain (Calls.spliced_cons (thn (he pins s1 σ H1 _ I1 q1) fun iv s2 ⟨y, H2, I2, ry, q2⟩ => Calls.spliced_cons (thn (hf pins s2 σ H2 _ I2 q2) fun fv s3 ⟨z, H3, I3, rz, kvs, k, e1, ey, l, q3, q4⟩ => Calls.spliced_nil ?_))))
  subst ey
  obtain ⟨zl, hd, vs, rel, dd⟩ := dk_of I3.hok e1
  have hl : (putK kvs k z).length ≤ sizeLine := by have := length_putK kvs k z; omega
  refine call_meetsIn PySem.F.slot_dict_setdefault dd.typeIs PySem.F.entry_dict_setdefault (PySem.F.args_dict_setdefault_3 _ _ _) (kt_meets_setdefault (mixKind X.prog X.w) a (kV_is ry) hd fv)
    ⟨vs, dd, by rw [← rel.length]; exact zl, fun v hv => ?_, fun hn h' dd' hs => ?_⟩
  · have rr := rel.val k
    rw [hv] at rr
    cases q : valV kvs k with
    | none => rw [q] at rr; exact False.elim rr
    | some w' => rw [q] at rr; exact ⟨w', H3, I3.tok _, rr, q3 w' q⟩
  · have rr := rel.val k
    rw [hn] at rr
    cases q : valV kvs k with
    | some w' => rw [q] at rr; exact False.elim rr
    | none =>
      have hx : ∃ q, h'.get? a = some q := let ⟨q, _, _, hq, _⟩ := dd'; ⟨q, hq⟩
      exact ⟨z, _, d_write I3 (by rw [e1]; exact True.intro) hs hx (dk_new hl hd (rel.put k rz) dd'), rz, q4 q⟩
section
variable {P : Program} {w : World} {K : PySem.W.Frag} {mg : Str → Option Value} {base : Heap} {t : Adr}
def kpred (s : Abs) (k : Nat) (n : Nat) : Bool := Kct4.kindIn s n == some k
def MemD (s : Abs) (H : Hp) (od : List Nat) (kvs : List (Key × V)) : Prop := ∀ k : Nat, (valV kvs (Sum.inl (k : Int)) = none ∧ od.filter (kpred s k) = []) ∨ ∃ a, valV kvs (Sum.inl (k : Int)) = some (.ref a) ∧ H a = some (.lst (natsV (od.filter (kpred s k))))
def sp_find_kind_members (t : Adr) : Sp := fun vs H Q _ => ∃ (L : BL) (s : Abs) (l : Addr) (od : List Nat), vs = [.ref L.b, .ref l] ∧ BookAt t H L s ∧ Wf s ∧ H l = some (.lst (natsV od)) ∧ InOrd (Kct4.speciesBefore s) s.species.length od ∧
  ∀ (d : Addr) (H' : Hp) (kvs : List (Key × V)), H d = none → Same H H' → H' d = some (.dK kvs) → MemD s H' od kvs → (∀ (k : Nat) (a : Addr), valV kvs (Sum.inl (k : Int)) = some (.ref a) → H a = none) → Q (.ref d) H'
def MmI (H : Hp) (L : BL) (s : Abs) (od : List Nat) (l dn : Addr) (i : Nat) (σ : L2.St) (H' : Hp) : Prop := ∃ (v3 v4 : Option V) (kvs : List (Key × V)), σ = [some (.ref L.b), some (.ref l), some (.ref dn), v3, v4] ∧ Same H H' ∧ H' dn = some (.dK kvs) ∧ kvs.length ≤ i ∧ MemD s H' (od.take i) kvs ∧
  (∀ (k : Nat) (a : Addr), valV kvs (Sum.inl (k : Int)) = some (.ref a) → H a = none) ∧ (∀ (k k' : Nat) (a : Addr), valV kvs (Sum.inl (k : Int)) = some (.ref a) → valV kvs (Sum.inl (k' : Int)) = some (.ref a) → k = k')
theorem ok_find_kind_members (T : Txt K mg t) : FnOk P w K mg base CX0 2 t.f_find_kind_members t.d_find_kind_members ["book", "order"] (sp_find_kind_members t) := by
  have G1 := ok_Book_kind_of_species (P := P) (w := w) (base := base) T
  refine T.h_find_kind_members.F.ok sc_find_kind_members (fun vs H Q E h => ?_) (fun cdv A outer s0 H vs Q E hr h => ?_)
  · obtain ⟨L, s, l, od, rfl, _⟩ := h
    rfl
  · obtain ⟨L, s, l, od, rfl, B, W, hl, O, k⟩ := h
    obtain ⟨k2, c2⟩ := T.c_NO_KIND
    have hu := hu_of hr
    have nd := sc_find_kind_members.nd
    refine ⟨_, pss_cons (ps_set (i := 2) nd rfl (Or.inl rfl) pe_dnewK)
      (pss_cons (ps_for PassesOwn.never rfl (pi_list (pv 1)) (pg_name (i := 3) nd rfl (Or.inl rfl))
        (pss_cons (ps_set (i := 4) nd rfl (Or.inl rfl) (pe_meth (pv 0) T.cl_Book T.h_Book_kind_of_species.m G1 hr T.h_Book_kind_of_species.b .nil pass0 (pa_cons (pv 3) pa_nil)))
        (pss_one (ps_if (pt_cmpR op_ne (pv 4) (pe_glob rfl c2 (v := .int 256) ⟨k2, rfl⟩) (nomark _))
          (pss_one (ps_expr (pe_bm PySem.F.plainAttrs_list PySem.F.slot_list_append PySem.F.type_list_append mt_append (pe_dset (pv 2) (pv 4) (pe_lst pa_nil) ⟨rfl, rfl, rfl, rfl⟩) (pa_cons (pv 3) pa_nil)))) pss_nil))))
      (pss_one (ps_ret (pv 2)))), ?_⟩
    refine fun dn ndn => ⟨_, rfl, l, rfl, ⟨_, SqL.of (Same.new0 ndn _ _ hl)⟩, ?_⟩
    refine for_list (xs := natsV od) (MmI H L s od l dn) ⟨none, none, [], rfl, Same.new0 ndn, upd_same, Nat.le_refl _, fun k => .inl ⟨rfl, rfl⟩, (fun k a z => by cases z), (fun k k' a z => by cases z)⟩ ?_ ?_ ?_
    · rintro i σ H' _ ⟨v3, v4, kvs, _, sm, _⟩
      exact SqL.of (sm _ _ hl)
    · rintro i x σ H3 hx ⟨v3, v4, kvs, rfl, sm3, hn3, z1, iv, fr, inj⟩
      obtain ⟨n, hn, rfl⟩ := natsV_get hx
      obtain ⟨et, eo⟩ := take_next hn
      have hnl : n < s.species.length := O.lt (List.mem_of_getElem? hn)
      have B3 := B.same sm3
      obtain ⟨db3, hb3⟩ := B3.bk
      have hil : i < od.length := (List.getElem?_eq_some_iff.mp hn).1
      have ol := O.len
      refine ⟨_, rfl, _, db3, _, rfl, hb3, rfl, _, rfl, L, s, n, rfl, B3, W, hnl, ?_⟩
      refine ⟨_, rfl, scal_encK _ _, _, rfl, ?_⟩
      rw [encK_256 (fun k e => kindIn_lt W e)]
      have fil : ∀ k, (od.take (i + 1)).filter (kpred s k) = (od.take i).filter (kpred s k) ++ if Kct4.kindIn s n = some k then [n] else [] := fun k => by
        rw [et, List.filter_append, List.filter_cons, List.filter_nil]
        by_cases z : Kct4.kindIn s n = some k
        · rw [if_pos z, if_pos (by unfold kpred; rw [z]; exact beq_self_eq_true _)]
        · rw [if_neg z, if_neg (show ¬ kpred s k n = true from fun q => z (eq_of_beq q))]
      cases hk : Kct4.kindIn s n with
      | none =>
        refine iteF ?_
        refine ⟨_, _, kvs, rfl, sm3, hn3, by omega, fun k => ?_, fr, inj⟩
        rw [fil k, hk, if_neg (fun z => nomatch z), List.append_nil]
        exact iv k
      | some kd =>
        refine iteT ?_
        refine ⟨_, rfl, dn, rfl, .inl ⟨_, .inl hn3⟩, _, rfl, Nat.zero_le _, fun p hp => ?_⟩
        have hpn : dn ≠ p := ne_of_none hn3 hp
        have hn4 : upd H3 p (.lst []) dn = some (.dK kvs) := (upd_ne hpn).trans hn3
        have pH : H p = none := Same.free sm3 hp
        have kl : kvs.length < sizeLine := line_of_small (by have := W.sl; omega)
        refine ⟨kvs, Sum.inl (kd : Int), hn4, rfl, kl, fun v hv => ?_, fun hv => ?_⟩
        · -- a list is there
          rcases iv kd with ⟨z, _⟩ | ⟨a, ha, hal⟩
          · rw [z] at hv; cases hv
          rw [ha] at hv
          cases hv
          have hap : a ≠ p := ne_of_none hal hp
          have hal4 : upd H3 p (.lst []) a = some (.lst (natsV ((od.take i).filter (kpred s kd)))) := (upd_ne hap).trans hal
          have aH : H a = none := fr kd a ha
          have hlen : (natsV ((od.take i).filter (kpred s kd))).length < sizeLine := by
            unfold natsV
            rw [List.length_map]
            have h1 := List.length_filter_le (kpred s kd) (od.take i)
            rw [List.length_take] at h1
            exact line_of_small (by have := W.sl; omega)
          refine ⟨.inl ⟨rfl, _, SqL.of hal4⟩, _, rfl, a, _, _, rfl, rfl, hal4, hlen, ?_⟩
          have hna : dn ≠ a := ne_of hn3 hal (by intro z; cases z)
          refine ⟨_, _, kvs, rfl, fun b o e => ?_, (upd_ne hna).trans hn4, by omega, fun k => ?_, fr, inj⟩
          · rw [upd_ne (ne_of_none e aH), upd_ne (ne_of_none e pH)]; exact sm3 _ _ e
          · rw [fil k, hk]
            by_cases z : kd = k
            · subst z
              rw [if_pos rfl]
              refine .inr ⟨a, ha, ?_⟩
              rw [upd_same]
              unfold natsV
              rw [List.map_append]
              rfl
            · rw [if_neg (fun q => z (Option.some.inj q)), List.append_nil]
              rcases iv k with y | ⟨a', ha', hal'⟩
              · exact .inl y
              · refine .inr ⟨a', ha', ?_⟩
                have ne : a' ≠ a := fun q => z (inj kd k a ha (by rw [← q]; exact ha'))
                rw [upd_ne ne, upd_ne (ne_of_none hal' hp)]
                exact hal'
        · -- the new list
          have h5 : upd (upd H3 p (.lst [])) dn (.dK (putK kvs (Sum.inl (kd : Int)) (.ref p))) p = some (.lst []) := (upd_ne (Ne.symm hpn)).trans upd_same
          refine ⟨.inl ⟨rfl, _, SqL.of h5⟩, _, rfl, p, _, _, rfl, rfl, h5, (by show 0 < sizeLine; decide), ?_⟩
          have hem : (od.take i).filter (kpred s kd) = [] := by
            rcases iv kd with ⟨_, z⟩ | ⟨a, ha, _⟩
            · exact z
            · rw [ha] at hv; cases hv
          have vp : ∀ k : Nat, valV (putK kvs (Sum.inl (kd : Int)) (.ref p)) (Sum.inl (k : Int)) = if k = kd then some (.ref p) else valV kvs (Sum.inl (k : Int)) := fun k => by
            rw [valV_put]
            by_cases z : k = kd
            · rw [if_pos z, if_pos (by rw [z])]
            · rw [if_neg z, if_neg (fun q => z (by have q := Sum.inl.inj q; omega))]
          refine ⟨_, _, putK kvs (Sum.inl (kd : Int)) (.ref p), rfl, fun b o e => ?_, (upd_ne hpn).trans upd_same, Nat.le_trans (length_putK _ _ _) (by omega), fun k => ?_, fun k a z => ?_, fun k k' a z z' => ?_⟩
          · rw [upd_ne (ne_of_none e pH), upd_ne (ne_of_none e ndn), upd_ne (ne_of_none e pH)]; exact sm3 _ _ e
          · rw [fil k, hk, vp k]
            by_cases z : k = kd
            · rw [if_pos z, z, if_pos rfl, hem]
              exact .inr ⟨p, rfl, upd_same⟩
            · rw [if_neg z, if_neg (fun q => z (Option.some.inj q).symm), List.append_nil]
              rcases iv k with y | ⟨a', ha', hal'⟩
              · exact .inl y
              · refine .inr ⟨a', ha', ?_⟩
                rw [upd_ne (ne_of_none hal' hp), upd_ne (ne_of hal' hn3 (by intro z; cases z)), upd_ne (ne_of_none hal' hp)]
                exact hal'
          · rw [vp k] at z
            by_cases q : k = kd
            · rw [if_pos q] at z
              cases z
              exact pH
            · rw [if_neg q] at z
              exact fr k a z
          · rw [vp k] at z
            rw [vp k'] at z'
            have np : ∀ (k : Nat) (a : Addr), valV kvs (Sum.inl (k : Int)) = some (.ref a) → a ≠ p := fun k a e q => by
              rcases iv k with ⟨y, _⟩ | ⟨a', ha', hal'⟩
              · rw [y] at e; cases e
              · rw [ha'] at e
                cases e
                rw [q, hp] at hal'
                cases hal'
            by_cases q : k = kd
            · rw [if_pos q] at z
              cases z
              by_cases q' : k' = kd
              · rw [q, q']
              · rw [if_neg q'] at z'
                exact absurd rfl (np k' _ z')
            · rw [if_neg q] at z
              by_cases q' : k' = kd
              · rw [if_pos q'] at z'
                cases z'
                exact absurd rfl (np k _ z)
              · rw [if_neg q'] at z'
                exact inj k k' a z z'
    · rintro σ H' ⟨v3, v4, kvs, rfl, sm3, hn3, z1, iv, fr, inj⟩
      have hlen : (natsV od).length = od.length := List.length_map _
      rw [hlen, List.take_length] at iv
      exact ⟨_, rfl, k dn H' kvs ndn sm3 hn3 iv fr⟩
end
end Ns
end
section
set_option Elab.async false
set_option linter.all false
set_option maxRecDepth 100000
set_option maxHeartbeats 2000000
namespace Ns
open PySem PySem.Spec PyProof.Rows L2
open PySem.W (Codec)
open Kct4 (Abs Genus Species Ruled Call)
def toZ (w : List Nat) : List Int := w.map fun (n : Nat) => (n : Int)
theorem toZ_V (w : List Nat) : (toZ w).map V.int = wordV w := by
  unfold toZ wordV
  rw [List.map_map]
  rfl
theorem toZ_inj : ∀ {u v : List Nat}, toZ u = toZ v → u = v
  | [], [], _ => rfl
  | [], _ :: _, h => by cases h
  | _ :: _, [], h => by cases h
  | a :: u, b :: v, h => by
    have h1 : (a : Int) = (b : Int) := (List.cons.inj h).1
    rw [toZ_inj (List.cons.inj h).2, show a = b by omega]
def zB (p : List Nat × List Nat) : List Int × List Int := (toZ p.1, toZ p.2)
def zG (p : Nat × List Nat) : Int × List Int := ((p.1 : Int), toZ p.2)
theorem zB_inj {p q : List Nat × List Nat} (h : zB p = zB q) : p = q := Prod.ext (toZ_inj (congrArg Prod.fst h)) (toZ_inj (congrArg Prod.snd h))
theorem zG_inj {p q : Nat × List Nat} (h : zG p = zG q) : p = q := Prod.ext (by have h1 : (p.1 : Int) = (q.1 : Int) := congrArg Prod.fst h; omega) (toZ_inj (congrArg Prod.snd h))
theorem mem_inj {α β : Type} {g : α → β} (hg : ∀ x y, g x = g y → x = y) {x : α} {l : List α} : g x ∈ l.map g ↔ x ∈ l := by
  constructor
  · intro h
    obtain ⟨y, hy, e⟩ := List.mem_map.mp h
    rw [← hg _ _ e]; exact hy
  · exact fun h => List.mem_map.mpr ⟨x, h, rfl⟩
def bKeys (s : Abs) (pre : List Nat) : List (List Int × List Int) := ((pre.filter (Kct4.speciesGood s)).map (birthKey s)).map zB
def gKeys (s : Abs) (pre : List Nat) : List (Int × List Int) := ((pre.filter (takes s)).map (grpKey s)).map zG
def tpred (s : Abs) (k : Nat) (n : Nat) : Bool := takes s n && Kct4.kindIn s n == some k
theorem fil_snoc {p : Nat → Bool} {pre : List Nat} {n : Nat} : (pre ++ [n]).filter p = pre.filter p ++ if p n = true then [n] else [] := by rw [List.filter_append, List.filter_cons, List.filter_nil]
theorem find_snoc {p : Nat → Bool} {pre : List Nat} {n : Nat} : (pre ++ [n]).find? p = (pre.find? p).or (if p n = true then some n else none) := by
  rw [List.find?_append, List.find?_cons, List.find?_nil]
  cases p n <;> rfl
theorem bKeys_f {s : Abs} {pre : List Nat} {n : Nat} (h : Kct4.speciesGood s n = false) : bKeys s (pre ++ [n]) = bKeys s pre := by
  unfold bKeys
  rw [fil_snoc, if_neg (by rw [h]; exact Bool.false_ne_true), List.append_nil]
theorem bKeys_t {s : Abs} {pre : List Nat} {n : Nat} (h : Kct4.speciesGood s n = true) : bKeys s (pre ++ [n]) = bKeys s pre ++ [zB (birthKey s n)] := by
  unfold bKeys
  rw [fil_snoc, if_pos h, List.map_append, List.map_append]
  rfl
theorem gKeys_f {s : Abs} {pre : List Nat} {n : Nat} (h : takes s n = false) : gKeys s (pre ++ [n]) = gKeys s pre := by
  unfold gKeys
  rw [fil_snoc, if_neg (by rw [h]; exact Bool.false_ne_true), List.append_nil]
theorem gKeys_t {s : Abs} {pre : List Nat} {n : Nat} (h : takes s n = true) : gKeys s (pre ++ [n]) = gKeys s pre ++ [zG (grpKey s n)] := by
  unfold gKeys
  rw [fil_snoc, if_pos h, List.map_append, List.map_append]
  rfl
theorem keys_len {s : Abs} {pre : List Nat} : (bKeys s pre).length ≤ pre.length ∧ (gKeys s pre).length ≤ pre.length := by
  unfold bKeys gKeys
  rw [List.length_map, List.length_map, List.length_map, List.length_map]
  exact ⟨List.length_filter_le _ _, List.length_filter_le _ _⟩
def jgF (L : BL) (d1 d2 d3 : Addr) : List (Str × V) := [("book", .ref L.b), ("births_taken", .ref d1), ("group_words_taken", .ref d2), ("words_found", .ref d3)]
structure JudgeAt (P : Program) (w : World) (t : Adr) (H : Hp) (j d1 d2 d3 : Addr) (L : BL) (s : Abs) (pre : List Nat) : Prop where
  ob : ∃ dx, H j = some (.ins t.C_Judge dx (jgF L d1 d2 d3))
  b1 : DnAt (iWord P w) (iWord P w) H d1 (bKeys s pre)
  b2 : DnAt (iInt P w) (iWord P w) H d2 (gKeys s pre)
  b3 : ∃ kvs, H d3 = some (.dK kvs) ∧ kvs.length ≤ pre.length ∧ NumD (fun k => pre.find? (tpred s k)) kvs
  ne : d1 ≠ d2
section
variable {P : Program} {w : World} {K : PySem.W.Frag} {mg : Str → Option Value} {base : Heap} {t : Adr}
theorem JudgeAt.skip {H : Hp} {j d1 d2 d3 : Addr} {L : BL} {s : Abs} {pre : List Nat} {n : Nat} (J : JudgeAt P w t H j d1 d2 d3 L s pre) (h : Kct4.speciesGood s n = false) : JudgeAt P w t H j d1 d2 d3 L s (pre ++ [n]) := by
  have tk : takes s n = false := by unfold takes; rw [h]; rfl
  refine ⟨J.ob, by rw [bKeys_f h]; exact J.b1, by rw [gKeys_f tk]; exact J.b2, ?_, J.ne⟩
  obtain ⟨kvs, h1, h2, h3⟩ := J.b3
  refine ⟨kvs, h1, by rw [List.length_append]; omega, fun k => ?_⟩
  show valV kvs (Sum.inl (k : Int)) = ((pre ++ [n]).find? (tpred s k)).map _
  rw [find_snoc, if_neg (by unfold tpred; rw [tk]; exact Bool.false_ne_true), Option.or_none]
  exact h3 k
theorem jg_num {s : Abs} {pre : List Nat} {n : Nat} {kvs : List (Key × V)} (h3 : NumD (fun k => pre.find? (tpred s k)) kvs) (tk : takes s n = false) : NumD (fun k => (pre ++ [n]).find? (tpred s k)) kvs := fun k => by
  show valV kvs (Sum.inl (k : Int)) = ((pre ++ [n]).find? (tpred s k)).map _
  rw [find_snoc, if_neg (by unfold tpred; rw [tk]; exact Bool.false_ne_true), Option.or_none]
  exact h3 k
def sp_Judge_init (P : Program) (w : World) (t : Adr) : Sp := fun vs H Q _ => ∃ (j dx : Addr) (L : BL), vs = [.ref j, .ref L.b] ∧ H j = some (.ins t.C_Judge dx []) ∧
  ∀ (d1 d2 d3 : Addr) (H' : Hp), (∀ s, JudgeAt P w t H' j d1 d2 d3 L s []) → H d1 = none → H d2 = none → H d3 = none → (∀ b o, H b = some o → b ≠ j → H' b = some o) → Q .non H'
theorem ok_Judge_init (T : Txt K mg t) : FnOk P w K mg base CX0 1 t.f_Judge_init t.d_Judge_init ["self", "book"] (sp_Judge_init P w t) := by
  refine T.h_Judge_init.F.ok sc_Judge_init (fun vs H Q E h => ?_) (fun cdv A outer s0 H vs Q E hr h => ?_)
  · obtain ⟨j, dx, L, rfl, _⟩ := h
    rfl
  · obtain ⟨j, dx, L, rfl, h1, k⟩ := h
    refine ⟨_, pss_cons (ps_fld (pv 0) (pv 1) rfl) (pss_cons (ps_fld (pv 0) (pe_dnewN (iWord P w) (iWord P w)) rfl) (pss_cons (ps_fld (pv 0) (pe_dnewN (iInt P w) (iWord P w)) rfl) (pss_one (ps_fld (pv 0) pe_dnewK rfl)))), ?_⟩
    refine ⟨_, rfl, _, rfl, j, t.C_Judge, dx, [], rfl, h1, T.cl_Judge, T.n_Judge_book, (by decide), ?_⟩
    intro d1 H1 nd1 D1 e1
    have hj1 : d1 ≠ j := (ne_of_none upd_same nd1).symm
    refine ⟨_, rfl, j, t.C_Judge, dx, _, rfl, (e1 j (Ne.symm hj1)).trans upd_same, T.cl_Judge, T.n_Judge_births_taken, (by show 1 < 1000; decide), ?_⟩
    intro d2 H2 nd2 D2 e2
    have hj2 : d2 ≠ j := (ne_of_none upd_same nd2).symm
    have h12 : d1 ≠ d2 := by
      obtain ⟨φ, z⟩ := D1.ext
      exact ne_of_none ((upd_ne hj1).trans z) nd2
    refine ⟨_, rfl, j, t.C_Judge, dx, _, rfl, (e2 j (Ne.symm hj2)).trans upd_same, T.cl_Judge, T.n_Judge_group_words_taken, (by show 2 < 1000; decide), ?_⟩
    intro d3 nd3
    have hj3 : d3 ≠ j := (ne_of_none upd_same nd3).symm
    have h23 : d2 ≠ d3 := by
      obtain ⟨φ, z⟩ := D2.ext
      exact ne_of_none ((upd_ne hj2).trans z) nd3
    have h13 : d1 ≠ d3 := by
      obtain ⟨φ, z⟩ := D1.ext
      exact ne_of_none ((upd_ne hj1).trans ((e2 d1 h12).trans ((upd_ne hj1).trans z))) nd3
    refine ⟨_, rfl, j, t.C_Judge, dx, _, rfl, (upd_ne (Ne.symm hj3)).trans upd_same, T.cl_Judge, T.n_Judge_words_found, (by show 3 < 1000; decide), ?_⟩
    have nH1 : H d1 = none := by rw [upd_ne hj1] at nd1; exact nd1
    have nH2 : H d2 = none := by rw [upd_ne hj2, e1 d2 (Ne.symm h12), upd_ne hj2] at nd2; exact nd2
    have nH3 : H d3 = none := by rw [upd_ne hj3, e2 d3 (Ne.symm h23), upd_ne hj3, e1 d3 (Ne.symm h13), upd_ne hj3] at nd3; exact nd3
    refine k d1 d2 d3 _ (fun s => ⟨⟨dx, upd_same⟩, ?_, ?_, ⟨[], (upd_ne hj3).trans upd_same, Nat.le_refl _, fun k => rfl⟩, h12⟩) nH1 nH2 nH3 fun b o e ne => ?_
    · -- births
      have tj : ∀ {a : Addr} {G : Hp} {ys : List V} {o : HO}, (∀ fs, G j = some (.ins t.C_Judge dx fs) → True) → G a = some (.tup ys) → (∃ fs, G j = some (.ins t.C_Judge dx fs)) → upd G j o a = some (.tup ys) := fun _ e ⟨fs, z⟩ => by rw [upd_ne (ne_of e z (by intro q; cases q))]; exact e
      refine D1.keep (fun b ys e => ?_) (fun φ e => ?_)
      · have g1 : H1 j = some (.ins t.C_Judge dx _) := (e1 j (Ne.symm hj1)).trans upd_same
        have e' := tj (o := .ins t.C_Judge dx (putF "births_taken" (.ref d1) (putF "book" (.ref L.b) []))) (fun _ _ => trivial) e ⟨_, g1⟩
        have nb2 : b ≠ d2 := ne_of_none e' nd2
        have e2' := (e2 b nb2).trans e'
        have g2 : H2 j = some (.ins t.C_Judge dx _) := (e2 j (Ne.symm hj2)).trans upd_same
        have e3 := tj (o := .ins t.C_Judge dx (putF "group_words_taken" (.ref d2) (putF "births_taken" (.ref d1) (putF "book" (.ref L.b) [])))) (fun _ _ => trivial) e2' ⟨_, g2⟩
        have nb3 : b ≠ d3 := ne_of_none e3 nd3
        rw [upd_ne (ne_of e2' g2 (by intro q; cases q)), upd_ne nb3]
        exact e3
      · rw [upd_ne hj1, upd_ne h13, upd_ne hj1, e2 d1 h12, upd_ne hj1]
        exact e
    · refine D2.keep (fun b ys e => ?_) (fun φ e => ?_)
      · have g2 : H2 j = some (.ins t.C_Judge dx _) := (e2 j (Ne.symm hj2)).trans upd_same
        have nbj : b ≠ j := ne_of e g2 (by intro q; cases q)
        have e3 : upd H2 j (.ins t.C_Judge dx (putF "group_words_taken" (.ref d2) (putF "births_taken" (.ref d1) (putF "book" (.ref L.b) [])))) b = some (.tup ys) := (upd_ne nbj).trans e
        rw [upd_ne nbj, upd_ne (ne_of_none e3 nd3)]
        exact e3
      · rw [upd_ne hj2, upd_ne h23, upd_ne hj2]
        exact e
    · rw [upd_ne ne, upd_ne (ne_of_none e nH3), upd_ne ne, e2 b (ne_of_none e nH2), upd_ne ne, e1 b (ne_of_none e nH1), upd_ne ne]
      exact e
end
end Ns
end
section
set_option Elab.async false
set_option linter.all false
set_option maxRecDepth 100000
set_option maxHeartbeats 2000000
namespace Ns
open PySem PySem.Spec PyProof.Rows L2
open PySem.W (Codec)
open Kct4 (Abs Genus Species Ruled Call)
section
variable {P : Program} {w : World} {K : PySem.W.Frag} {mg : Str → Option Value} {base : Heap} {t : Adr}
theorem jg_book (L : BL) (d1 d2 d3 : Addr) : (jgF L d1 d2 d3).lookup ("book" : Str) = some (.ref L.b) := rfl
theorem jg_b1 (L : BL) (d1 d2 d3 : Addr) : (jgF L d1 d2 d3).lookup ("births_taken" : Str) = some (.ref d1) := rfl
theorem jg_b2 (L : BL) (d1 d2 d3 : Addr) : (jgF L d1 d2 d3).lookup ("group_words_taken" : Str) = some (.ref d2) := rfl
theorem jg_b3 (L : BL) (d1 d2 d3 : Addr) : (jgF L d1 d2 d3).lookup ("words_found" : Str) = some (.ref d3) := rfl
theorem spcRej {s : Abs} {n : Nat} {x : Species} (h : s.species[n]? = some x) : Kct4.speciesRejected s n = (x.ruled == .rejected) := by unfold Kct4.speciesRejected; rw [h]; rfl
theorem spcWord {s : Abs} {n : Nat} {x : Species} (h : s.species[n]? = some x) : Kct4.speciesWord s n = x.word := by unfold Kct4.speciesWord; rw [h]; rfl
theorem spcBirth {s : Abs} {n : Nat} {x : Species} {g : Genus} (h : s.species[n]? = some x) (h2 : s.genera[x.genus]? = some g) : Kct4.birthGenus s n = g.word := by unfold Kct4.birthGenus; rw [h]; exact genWord h2
theorem JudgeAt.same {H H' : Hp} {j d1 d2 d3 : Addr} {L : BL} {s : Abs} {pre : List Nat} (J : JudgeAt P w t H j d1 d2 d3 L s pre) (k : Same H H') : JudgeAt P w t H' j d1 d2 d3 L s pre := by
  obtain ⟨dx, h⟩ := J.ob
  obtain ⟨kvs, h1, h2⟩ := J.b3
  exact ⟨⟨dx, k _ _ h⟩, J.b1.same k, J.b2.same k, ⟨kvs, k _ _ h1, h2⟩, J.ne⟩
def KeepJ (H H' : Hp) (d1 d2 d3 : Addr) : Prop := ∀ b o, H b = some o → b ≠ d1 → b ≠ d2 → b ≠ d3 → H' b = some o
def sp_Judge_find_status (P : Program) (w : World) (t : Adr) : Sp := fun vs H Q _ => ∃ (j d1 d2 d3 : Addr) (L : BL) (s : Abs) (pre post : List Nat) (n : Nat), vs = [.ref j, .int (n : Int)] ∧ BookAt t H L s ∧ Wf s ∧ JudgeAt P w t H j d1 d2 d3 L s pre ∧
  InOrd (Kct4.speciesBefore s) s.species.length (pre ++ n :: post) ∧ ∀ H', JudgeAt P w t H' j d1 d2 d3 L s (pre ++ [n]) → KeepJ H H' d1 d2 d3 → Q (.int (Kct4.status s n : Int)) H'
theorem ok_Judge_find_status (T : Txt K mg t) : FnOk P w K mg base CX0 3 t.f_Judge_find_status t.d_Judge_find_status ["self", "number"] (sp_Judge_find_status P w t) := by
  have G1 := ok_Book_birth_word (P := P) (w := w) (base := base) T
  have G2 := ok_Book_group_of_species (P := P) (w := w) (base := base) T
  have G3 := ok_Book_kind_of_species (P := P) (w := w) (base := base) T
  refine T.h_Judge_find_status.F.ok sc_Judge_find_status (fun vs H Q E h => ?_) (fun cdv A outer s0 H vs Q E hr h => ?_)
  · obtain ⟨j, d1, d2, d3, L, s, pre, post, n, rfl, _⟩ := h
    rfl
  · obtain ⟨j, d1, d2, d3, L, s, pre, post, n, rfl, B, W, J, O, k⟩ := h
    obtain ⟨k1, c1⟩ := T.c_REJECTED
    obtain ⟨k2, c2⟩ := T.c_IS_REJECTED
    obtain ⟨k3, c3⟩ := T.c_HOMONYM_FROM_BIRTH
    obtain ⟨k4, c4⟩ := T.c_NO_GROUP
    obtain ⟨k5, c5⟩ := T.c_NOWHERE
    obtain ⟨k6, c6⟩ := T.c_HOMONYM_IN_GROUP
    obtain ⟨k7, c7⟩ := T.c_OTHER_IS_WORD
    obtain ⟨k8, c8⟩ := T.c_KINDS_WORD
    have hu := hu_of hr
    have hu16 : (A.deeper (envOfC "Judge.find_status" (defScope s_Judge_find_status) s0.heap.objs.size t.f_Judge_find_status cdv)).units + 16 < cLine := by have := hr.units; omega
    have nd := sc_Judge_find_status.nd
    refine ⟨_, pss_cons (ps_set (i := 2) nd rfl (Or.inl rfl) (pe_ix ix_list (pe_fld (pe_fld (pv 0) rfl) rfl) (pv 1) (fun _ _ => rfl)))
      (pss_cons (ps_if (pt_cmpR op_eq (pe_fld (pv 2) rfl) (pe_glob rfl c1 (v := .int 1) ⟨k1, rfl⟩) (nomark _)) (pss_one (ps_ret (pe_glob rfl c2 (v := .int 4) ⟨k2, rfl⟩))) pss_nil)
      (pss_cons (ps_set (i := 3) nd rfl (Or.inl rfl) (pe_tup (pa_cons (pe_meth (pe_fld (pv 0) rfl) T.cl_Book T.h_Book_birth_word.m G1 (hr.mono (by decide)) T.h_Book_birth_word.b .nil pass0 (pa_cons (pv 1) pa_nil)) (pa_cons (pe_fld (pv 2) rfl) pa_nil))))
      (pss_cons (ps_if (pt_cmp (pc_dnin (iWord P w) (iWord P w) hu16 (pv 3) (pe_fld (pv 0) rfl))) (pss_one (ps_ret (pe_glob rfl c3 (v := .int 2) ⟨k3, rfl⟩))) pss_nil)
      (pss_cons (ps_dnput (iWord P w) (iWord P w) hu16 (pe_fld (pv 0) rfl) (pv 3) pe_bl rfl)
      (pss_cons (ps_set (i := 4) nd rfl (Or.inl rfl) (pe_meth (pe_fld (pv 0) rfl) T.cl_Book T.h_Book_group_of_species.m G2 (hr.mono (by decide)) T.h_Book_group_of_species.b .nil pass0 (pa_cons (pv 1) pa_nil)))
      (pss_cons (ps_if (pt_cmpR op_eq (pv 4) (pe_glob rfl c4 (v := .int 64) ⟨k4, rfl⟩) (nomark _)) (pss_one (ps_ret (pe_glob rfl c5 (v := .int 5) ⟨k5, rfl⟩))) pss_nil)
      (pss_cons (ps_if (pt_cmp (pc_dnin (iInt P w) (iWord P w) hu16 (pe_tup (pa_cons (pv 4) (pa_cons (pe_fld (pv 2) rfl) pa_nil))) (pe_fld (pv 0) rfl))) (pss_one (ps_ret (pe_glob rfl c6 (v := .int 3) ⟨k6, rfl⟩))) pss_nil)
      (pss_cons (ps_dnput (iInt P w) (iWord P w) hu16 (pe_fld (pv 0) rfl) (pe_tup (pa_cons (pv 4) (pa_cons (pe_fld (pv 2) rfl) pa_nil))) pe_bl rfl)
      (pss_cons (ps_set (i := 5) nd rfl (Or.inl rfl) (pe_meth (pe_fld (pv 0) rfl) T.cl_Book T.h_Book_kind_of_species.m G3 (hr.mono (by decide)) T.h_Book_kind_of_species.b .nil pass0 (pa_cons (pv 1) pa_nil)))
      (pss_cons (ps_if (pt_cmp (pc_din hu (pv 5) (pe_fld (pv 0) rfl))) (pss_one (ps_ret (pe_glob rfl c7 (v := .int 1) ⟨k7, rfl⟩))) pss_nil)
      (pss_cons (ps_dput hu (pe_fld (pv 0) rfl) (pv 5) (pv 1) rfl)
      (pss_one (ps_ret (pe_glob rfl c8 (v := .int 0) ⟨k8, rfl⟩)))))))))))))), ?_⟩
    have hnl : n < s.species.length := O.lt (List.mem_append_right _ List.mem_cons_self)
    have st := status_next O
    obtain ⟨db, hb⟩ := B.bk
    obtain ⟨dj, hj⟩ := J.ob
    have ey := List.getElem?_eq_getElem hnl
    generalize s.species[n] = y at ey
    obtain ⟨q, dq, q1, q2, q3, q4⟩ := B.spcRef ey
    have hyg : y.genus < s.genera.length := W.sg y (List.mem_of_getElem? ey)
    have ez := List.getElem?_eq_getElem hyg
    generalize s.genera[y.genus] = z at ez
    obtain ⟨p, dp, p1, p2, p3, p4⟩ := B.genRef ez
    have er := spcRej ey
    have ew := spcWord ey
    have eb := spcBirth ey ez
    have plen : pre.length < 1024 := by
      have h1 := O.len
      rw [List.length_append, List.length_cons] at h1
      have := W.sl
      omega
    refine ⟨_, rfl, _, _, dj, _, _, rfl, hj, T.cl_Judge, T.n_Judge_book, jg_book _ _ _ _, _, _, db, _, _, rfl, hb, T.cl_Book, T.n_Book_species, bk_spc L, _, rfl, _, _, _, _, rfl, rfl, SqL.of B.ls, atI_nat q2, ?_⟩
    refine ⟨_, rfl, _, _, dq, _, _, rfl, q3, T.cl_Species, T.n_Species_ruling, sf_ruling _ _, rfl, _, rfl, ?_⟩
    rw [rul_one, ← er]
    cases hrej : Kct4.speciesRejected s n with
    | true =>
      refine iteT ?_
      rw [hrej, if_pos rfl] at st
      rw [st] at k
      refine k H (J.skip ?_) fun b o e _ _ _ => e
      unfold Kct4.speciesGood
      rw [hrej]
      rfl
    | false =>
      rw [hrej, if_neg Bool.false_ne_true] at st
      refine iteF ?_
      refine ⟨_, rfl, _, _, dj, _, _, rfl, hj, T.cl_Judge, T.n_Judge_book, jg_book _ _ _ _, _, db, _, rfl, hb, rfl, _, rfl, L, s, n, y, z, p, rfl, B, ey, ez, p1, _, rfl, _, _, dq, _, _, rfl, q3, T.cl_Species, T.n_Species_word, sf_word _ _, (by show 2 ≤ sizeLine; decide), fun b1 nb1 => ?_⟩
      have sm1 := Same.new0 (o := .tup [.ref p.2, .ref q.2]) nb1
      have J1 := J.same sm1
      have B1 := B.same sm1
      have PA1 : PairAt (iWord P w) (iWord P w) (upd H b1 (.tup [.ref p.2, .ref q.2])) (zB (birthKey s n)) b1 := by
        refine ⟨_, _, upd_same, ⟨p.2, rfl, ?_⟩, ⟨q.2, rfl, ?_⟩⟩
        · show _ = some (HO.tup ((toZ (Kct4.birthGenus s n)).map V.int))
          rw [toZ_V, eb]; exact sm1 _ _ p4
        · show _ = some (HO.tup ((toZ (Kct4.speciesWord s n)).map V.int))
          rw [toZ_V, ew]; exact sm1 _ _ q4
      generalize upd H b1 (.tup [.ref p.2, .ref q.2]) = H1 at *
      obtain ⟨dj1, hj1⟩ := J1.ob
      refine ⟨_, rfl, _, rfl, _, _, dj1, _, _, rfl, hj1, T.cl_Judge, T.n_Judge_births_taken, jg_b1 _ _ _ _, d1, b1, zB (birthKey s n), bKeys s pre, rfl, rfl, J1.b1, PA1, fun rb hrb => ⟨rb, rfl, ?_⟩⟩
      have hom : zB (birthKey s n) ∈ bKeys s pre ↔ Kct4.birthHomonym s n = true := by
        unfold bKeys
        rw [mem_inj (fun _ _ => zB_inj), good_species O]
      by_cases hh : Kct4.birthHomonym s n = true
      · obtain rfl : rb = true := hrb.mpr (hom.mpr hh)
        refine iteT ?_
        rw [if_pos hh] at st
        rw [st] at k
        refine k H1 (J1.skip ?_) fun b o e _ _ _ => sm1 b o e
        unfold Kct4.speciesGood
        rw [hh, hrej]
        rfl
      · obtain rfl : rb = false := by
          cases rb with
          | false => rfl
          | true => exact absurd (hom.mp (hrb.mp rfl)) hh
        refine iteF ?_
        rw [if_neg hh] at st
        have good : Kct4.speciesGood s n = true := (speciesGood_iff s n).mpr ⟨hrej, hh⟩
        have kb := (keys_len (s := s) (pre := pre)).1
        have kg := (keys_len (s := s) (pre := pre)).2
        refine ⟨_, rfl, _, _, dj1, _, _, rfl, hj1, T.cl_Judge, T.n_Judge_births_taken, jg_b1 _ _ _ _, _, rfl, d1, b1, zB (birthKey s n), bKeys s pre, rfl, rfl, rfl, J1.b1, PA1, fun c => hh (hom.mp c), line_of_small (by omega), fun H2 D2 e2 => ?_⟩
        obtain ⟨φ1, x1⟩ := J1.b1.ext
        obtain ⟨φ2, x2⟩ := J1.b2.ext
        have kp2 : ∀ b o, H1 b = some o → b ≠ d1 → H2 b = some o := fun b o e ne => (e2 b ne).trans e
        have tup2 : ∀ b ys, H1 b = some (.tup ys) → H2 b = some (.tup ys) := fun b ys e => kp2 b _ e (ne_of e x1 (by intro q; cases q))
        have B2 : BookAt t H2 L s := B1.stay fun b o hin e => kp2 b o e fun c => B1.notX x1 (c ▸ hin)
        have hj2 := kp2 _ _ hj1 (ne_of hj1 x1 (by intro q; cases q))
        obtain ⟨db2, hb2⟩ := B2.bk
        have b22 : DnAt (iInt P w) (iWord P w) H2 d2 (gKeys s pre) := J1.b2.keep tup2 fun φ e => kp2 _ _ e (Ne.symm J.ne)
        obtain ⟨kvs, hd3, kl, num⟩ := J1.b3
        have hd3' := kp2 _ _ hd3 (ne_of hd3 x1 (by intro q; cases q))
        have q42 := tup2 _ _ (sm1 _ _ q4)
        have q32 := kp2 _ _ (sm1 _ _ q3) (ne_of (sm1 _ _ q3) x1 (by intro q; cases q))
        have keep2 : KeepJ H H2 d1 d2 d3 := fun b o e n1 _ _ => kp2 b o (sm1 b o e) n1
        refine ⟨_, rfl, _, _, dj1, _, _, rfl, hj2, T.cl_Judge, T.n_Judge_book, jg_book _ _ _ _, _, db2, _, rfl, hb2, rfl, _, rfl, L, s, n, rfl, B2, W, hnl, ?_⟩
        refine ⟨_, rfl, scal_encG _ _, _, rfl, ?_⟩
        rw [encG_64 (fun g e => groupIn_lt W e)]
        cases hg : Kct4.groupIn s n with
        | none =>
          refine iteT ?_
          rw [hg, if_pos (show (none : Option Nat).isNone = true from rfl)] at st
          rw [st] at k
          have tk : takes s n = false := by unfold takes; rw [hg, good]; rfl
          exact k H2 ⟨⟨dj1, hj2⟩, by rw [bKeys_t good]; exact D2, by rw [gKeys_f tk]; exact b22, ⟨kvs, hd3', by rw [List.length_append]; omega, jg_num num tk⟩, J.ne⟩ keep2
        | some g =>
          refine iteF ?_
          have hgs : (Kct4.groupIn s n).isSome = true := by rw [hg]; rfl
          rw [hg, if_neg (show ¬ (some g).isNone = true from Bool.false_ne_true)] at st
          have homg : zG (grpKey s n) ∈ gKeys s pre ↔ Kct4.groupHomonym s n = true := by
            unfold gKeys
            rw [mem_inj (fun _ _ => zG_inj), group_taken O hgs]
          have ek : zG (grpKey s n) = ((g : Int), toZ y.word) := by
            unfold grpKey zG
            rw [hg, ew]
            rfl
          refine ⟨_, rfl, _, rfl, _, _, dq, _, _, rfl, q32, T.cl_Species, T.n_Species_word, sf_word _ _, (by show 2 ≤ sizeLine; decide), fun b3 nb3 => ?_⟩
          have sm3 := Same.new0 (o := .tup [encG (some g), .ref q.2]) nb3
          have PA3 : PairAt (iInt P w) (iWord P w) (upd H2 b3 (.tup [encG (some g), .ref q.2])) (zG (grpKey s n)) b3 := by
            rw [ek]
            refine ⟨_, _, upd_same, rfl, ⟨q.2, rfl, ?_⟩⟩
            rw [toZ_V]
            exact sm3 _ _ q42
          have hj3 := sm3 _ _ hj2
          have D3 := D2.same sm3
          have b23 := b22.same sm3
          have hd33 := sm3 _ _ hd3'
          have B3 := B2.same sm3
          have q33 := sm3 _ _ q32
          have q43 := sm3 _ _ q42
          have keep3 : KeepJ H (upd H2 b3 (.tup [encG (some g), .ref q.2])) d1 d2 d3 := fun b o e n1 n2 n3 => sm3 b o (keep2 b o e n1 n2 n3)
          generalize upd H2 b3 (.tup [encG (some g), .ref q.2]) = H3 at *
          refine ⟨_, rfl, _, _, dj1, _, _, rfl, hj3, T.cl_Judge, T.n_Judge_group_words_taken, jg_b2 _ _ _ _, d2, b3, zG (grpKey s n), gKeys s pre, rfl, rfl, b23, PA3, fun rb2 hrb2 => ⟨rb2, rfl, ?_⟩⟩
          by_cases hh3 : Kct4.groupHomonym s n = true
          · obtain rfl : rb2 = true := hrb2.mpr (homg.mpr hh3)
            refine iteT ?_
            rw [if_pos hh3] at st
            rw [st] at k
            have tk : takes s n = false := by unfold takes; rw [hgs, good, hh3]; rfl
            exact k H3 ⟨⟨dj1, hj3⟩, by rw [bKeys_t good]; exact D3, by rw [gKeys_f tk]; exact b23, ⟨kvs, hd33, by rw [List.length_append]; omega, jg_num num tk⟩, J.ne⟩ keep3
          · obtain rfl : rb2 = false := by
              cases rb2 with
              | false => rfl
              | true => exact absurd (homg.mp (hrb2.mp rfl)) hh3
            refine iteF ?_
            rw [if_neg hh3] at st
            have tk : takes s n = true := by
              unfold takes
              have e : Kct4.groupHomonym s n = false := by simpa using hh3
              rw [hgs, good, e]
              rfl
            refine ⟨_, rfl, _, _, dj1, _, _, rfl, hj3, T.cl_Judge, T.n_Judge_group_words_taken, jg_b2 _ _ _ _, _, rfl, _, rfl, _, _, dq, _, _, rfl, q33, T.cl_Species, T.n_Species_word, sf_word _ _, (by show 2 ≤ sizeLine; decide), fun b4 nb4 => ?_⟩
            have sm4 := Same.new0 (o := .tup [encG (some g), .ref q.2]) nb4
            have PA4 : PairAt (iInt P w) (iWord P w) (upd H3 b4 (.tup [encG (some g), .ref q.2])) (zG (grpKey s n)) b4 := by
              rw [ek]
              refine ⟨_, _, upd_same, rfl, ⟨q.2, rfl, ?_⟩⟩
              rw [toZ_V]
              exact sm4 _ _ q43
            have hj4 := sm4 _ _ hj3
            have D4 := D3.same sm4
            have b24 := b23.same sm4
            have hd34 := sm4 _ _ hd33
            have B4 := B3.same sm4
            have keep4 : KeepJ H (upd H3 b4 (.tup [encG (some g), .ref q.2])) d1 d2 d3 := fun b o e n1 n2 n3 => sm4 b o (keep3 b o e n1 n2 n3)
            generalize upd H3 b4 (.tup [encG (some g), .ref q.2]) = H4 at *
            refine ⟨d2, b4, zG (grpKey s n), gKeys s pre, rfl, rfl, rfl, b24, PA4, fun c => hh3 (homg.mp c), line_of_small (by omega), fun H5 D5 e5 => ?_⟩
            obtain ⟨φ4, x4⟩ := b24.ext
            have kp5 : ∀ b o, H4 b = some o → b ≠ d2 → H5 b = some o := fun b o e ne => (e5 b ne).trans e
            have tup5 : ∀ b ys, H4 b = some (.tup ys) → H5 b = some (.tup ys) := fun b ys e => kp5 b _ e (ne_of e x4 (by intro q; cases q))
            have B5 : BookAt t H5 L s := B4.stay fun b o hin e => kp5 b o e fun c => B4.notX x4 (c ▸ hin)
            have hj5 := kp5 _ _ hj4 (ne_of hj4 x4 (by intro q; cases q))
            obtain ⟨db5, hb5⟩ := B5.bk
            have b15 : DnAt (iWord P w) (iWord P w) H5 d1 (bKeys s pre ++ [zB (birthKey s n)]) := D4.keep tup5 fun φ e => kp5 _ _ e J.ne
            have hd35 := kp5 _ _ hd34 (ne_of hd34 x4 (by intro q; cases q))
            have keep5 : KeepJ H H5 d1 d2 d3 := fun b o e n1 n2 n3 => kp5 b o (keep4 b o e n1 n2 n3) n2
            refine ⟨_, rfl, _, _, dj1, _, _, rfl, hj5, T.cl_Judge, T.n_Judge_book, jg_book _ _ _ _, _, db5, _, rfl, hb5, rfl, _, rfl, L, s, n, rfl, B5, W, hnl, ?_⟩
            cases hk : Kct4.kindIn s n with
            | none =>
              unfold Kct4.groupIn at hg
              rw [hk] at hg
              cases hg
            | some kd =>
              rw [hk] at st
              refine ⟨_, rfl, _, rfl, _, _, dj1, _, _, rfl, hj5, T.cl_Judge, T.n_Judge_words_found, jg_b3 _ _ _ _, d3, _, rfl, DGet.k (k := Sum.inl (kd : Int)) hd35, _, rfl, ?_⟩
              have hv : valV kvs (Sum.inl (kd : Int)) = (pre.find? (tpred s kd)).map fun (n : Nat) => V.int (n : Int) := num kd
              have efp : (pre.find? fun m => takes s m && Kct4.kindIn s m == some kd) = pre.find? (tpred s kd) := rfl
              rw [efp] at st
              have tpn : ∀ k', tpred s k' n = decide (k' = kd) := fun k' => by
                unfold tpred
                rw [tk, hk, Bool.true_and]
                by_cases c : k' = kd
                · rw [c, decide_eq_true rfl, beq_self_eq_true]
                · rw [decide_eq_false c]
                  cases qq : ((some kd : Option Nat) == some k') with
                  | false => rfl
                  | true => exact absurd (Option.some.inj (eq_of_beq qq)).symm c
              cases hf : pre.find? (tpred s kd) with
              | some m =>
                rw [hf] at hv st
                rw [hv]
                refine iteT ?_
                rw [if_pos (show (some m).isSome = true from rfl)] at st
                rw [st] at k
                refine k H5 ⟨⟨dj1, hj5⟩, by rw [bKeys_t good]; exact b15, by rw [gKeys_t tk]; exact D5, ⟨kvs, hd35, by rw [List.length_append]; omega, fun k' => ?_⟩, J.ne⟩ keep5
                show valV kvs (Sum.inl (k' : Int)) = ((pre ++ [n]).find? (tpred s k')).map fun (n : Nat) => V.int (n : Int)
                rw [find_snoc, tpn k']
                by_cases c : k' = kd
                · rw [c, hf, Option.some_or]
                  exact hv
                · rw [decide_eq_false c, if_neg Bool.false_ne_true, Option.or_none]
                  exact num k'
              | none =>
                rw [hf] at hv st
                rw [hv]
                refine iteF ?_
                rw [if_neg (show ¬ (none : Option Nat).isSome = true from Bool.false_ne_true)] at st
                rw [st] at k
                refine ⟨_, rfl, _, rfl, _, _, dj1, _, _, rfl, hj5, T.cl_Judge, T.n_Judge_words_found, jg_b3 _ _ _ _, _, rfl, d3, _, rfl, DPut.k (k := Sum.inl (kd : Int)) hd35 (line_of_small (by omega)), ?_⟩
                obtain ⟨φ5, x5⟩ := D5.ext
                obtain ⟨φ6, x6⟩ := b15.ext
                have tup6 : ∀ b ys, H5 b = some (.tup ys) → upd H5 d3 (.dK (putK kvs (Sum.inl (kd : Int)) (.int (n : Int)))) b = some (.tup ys) := fun b ys e => by rw [upd_ne (ne_of e hd35 (by intro q; cases q))]; exact e
                refine k _ ⟨⟨dj1, (upd_ne (ne_of hj5 hd35 (by intro q; cases q))).trans hj5⟩, ?_, ?_, ⟨_, upd_same, Nat.le_trans (length_putK _ _ _) (by rw [List.length_append]; show kvs.length + 1 ≤ pre.length + 1; omega), fun k' => ?_⟩, J.ne⟩ ?_
                · rw [bKeys_t good]
                  exact b15.keep tup6 fun φ e => (upd_ne (ne_of e hd35 (by intro q; cases q))).trans e
                · rw [gKeys_t tk]
                  exact D5.keep tup6 fun φ e => (upd_ne (ne_of e hd35 (by intro q; cases q))).trans e
                · show valV (putK kvs (Sum.inl (kd : Int)) (.int (n : Int))) (Sum.inl (k' : Int)) = ((pre ++ [n]).find? (tpred s k')).map fun (n : Nat) => V.int (n : Int)
                  rw [valV_put, find_snoc, tpn k']
                  by_cases c : k' = kd
                  · rw [c, hf, if_pos rfl, decide_eq_true rfl, if_pos rfl, Option.none_or]
                    rfl
                  · rw [if_neg (fun qq => c (by have qq := Sum.inl.inj qq; omega)), decide_eq_false c, if_neg Bool.false_ne_true, Option.or_none]
                    exact num k'
                · intro b o e n1 n2 n3
                  rw [upd_ne n3]
                  exact keep5 b o e n1 n2 n3
end
end Ns
end
section
set_option Elab.async false
set_option linter.all false
set_option maxRecDepth 100000
set_option maxHeartbeats 2000000
namespace Ns
open PySem PySem.Spec PyProof.Rows L2
open PySem.W (Codec)
open Kct4 (Abs Genus Species Ruled Call)
def stF1 (a1 : Addr) : List (Str × V) := [("group_names", .ref a1)]
def stF2 (a1 a2 : Addr) : List (Str × V) := [("group_names", .ref a1), ("kind_members", .ref a2)]
def stF3 (a1 a2 a3 : Addr) : List (Str × V) := [("group_names", .ref a1), ("kind_members", .ref a2), ("statuses", .ref a3)]
def stF (a1 a2 a3 a4 : Addr) : List (Str × V) := [("group_names", .ref a1), ("kind_members", .ref a2), ("statuses", .ref a3), ("kind_words", .ref a4)]
theorem stF1_put (a1 : Addr) : putF "group_names" (.ref a1) [] = stF1 a1 := rfl
theorem stF2_put (a1 a2 : Addr) : putF "kind_members" (.ref a2) (stF1 a1) = stF2 a1 a2 := rfl
theorem stF3_put (a1 a2 a3 : Addr) : putF "statuses" (.ref a3) (stF2 a1 a2) = stF3 a1 a2 a3 := rfl
theorem stF_put (a1 a2 a3 a4 : Addr) : putF "kind_words" (.ref a4) (stF3 a1 a2 a3) = stF a1 a2 a3 a4 := rfl
theorem stF3_st (a1 a2 a3 : Addr) : (stF3 a1 a2 a3).lookup ("statuses" : Str) = some (.ref a3) := rfl
def MemN (s : Abs) (H : Hp) (kvs : List (Key × V)) : Prop := ∀ k : Nat, (valV kvs (Sum.inl (k : Int)) = none ∧ Kct4.namesIn s k = []) ∨ ∃ a, valV kvs (Sum.inl (k : Int)) = some (.ref a) ∧ H a = some (.lst (natsV (Kct4.namesIn s k)))
def statV (s : Abs) : List V := (List.range s.species.length).map fun n => V.int (Kct4.status s n : Int)
def StandAt (t : Adr) (H : Hp) (st : Addr) (s : Abs) (qq : Addr) : Prop := ∃ (dx a1 a2 a3 a4 : Addr) (k1 k2 k4 : List (Key × V)), H st = some (.ins t.C_Standing dx (stF a1 a2 a3 a4)) ∧ H a1 = some (.dK k1) ∧ NumD (Kct4.genusName s) k1 ∧ H a2 = some (.dK k2) ∧ MemN s H k2 ∧ H a3 = some (.lst (statV s)) ∧ H a4 = some (.dK k4) ∧ NumD (Kct4.speciesName s) k4 ∧ a3 ≠ qq ∧ ∀ (k : Nat) (a : Addr), valV k2 (Sum.inl (k : Int)) = some (.ref a) → a ≠ qq
theorem StandAt.keep {t : Adr} {H H' : Hp} {st qq : Addr} {s : Abs} {r C dx : Addr} {fs : List (Str × V)} (S : StandAt t H st s qq) (hr : H r = some (.ins C dx fs)) (hne : st ≠ r) (k : ∀ b o, H b = some o → b ≠ r → H' b = some o) : StandAt t H' st s qq := by
  obtain ⟨ds, a1, a2, a3, a4, k1, k2, k4, h1, h2, h3, h4, h5, h6, h7, h8, h9⟩ := S
  have nr : ∀ {b o}, H b = some o → (∀ C dx fs, o ≠ .ins C dx fs) → H' b = some o := fun {b o} e ho => k b o e (ne_of e hr (ho _ _ _))
  refine ⟨ds, a1, a2, a3, a4, k1, k2, k4, k _ _ h1 hne, nr h2 (fun _ _ _ z => nomatch z), h3, nr h4 (fun _ _ _ z => nomatch z), fun kd => ?_, nr h6 (fun _ _ _ z => nomatch z), nr h7 (fun _ _ _ z => nomatch z), h8, h9⟩
  rcases h5 kd with y | ⟨a, y1, y2⟩
  · exact .inl y
  · exact .inr ⟨a, y1, nr y2 (fun _ _ _ z => nomatch z)⟩
theorem StandAt.upd {t : Adr} {H : Hp} {st qq : Addr} {s : Abs} {xs ys : List V} (S : StandAt t H st s qq) (h : H qq = some (.lst xs)) : StandAt t (L2.upd H qq (.lst ys)) st s qq := by
  obtain ⟨ds, a1, a2, a3, a4, k1, k2, k4, h1, h2, h3, h4, h5, h6, h7, h8, h9, h10⟩ := S
  have nr : ∀ {b o}, H b = some o → (∀ l, o ≠ .lst l) → L2.upd H qq (.lst ys) b = some o := fun {b o} e ho => (upd_ne (ne_of e h (ho _))).trans e
  refine ⟨ds, a1, a2, a3, a4, k1, k2, k4, nr h1 (fun _ z => nomatch z), nr h2 (fun _ z => nomatch z), h3, nr h4 (fun _ z => nomatch z), fun kd => ?_, (upd_ne h9).trans h6, nr h7 (fun _ z => nomatch z), h8, h9, h10⟩
  rcases h5 kd with y | ⟨a, y1, y2⟩
  · exact .inl y
  · exact .inr ⟨a, y1, (upd_ne (h10 kd a y1)).trans y2⟩
def stV (s : Abs) (pre : List Nat) : List V := (List.range s.species.length).map fun m => if m ∈ pre then V.int (Kct4.status s m : Int) else .non
theorem stV_nil (s : Abs) : stV s [] = List.replicate s.species.length .non := by
  unfold stV
  refine List.ext_getElem? fun j => ?_
  rw [List.getElem?_map, List.getElem?_replicate]
  by_cases h : j < s.species.length
  · rw [List.getElem?_range h, if_pos h]
    simp
  · rw [List.getElem?_eq_none (by rw [List.length_range]; omega), if_neg h]
    rfl
theorem stV_set {s : Abs} {pre : List Nat} {n : Nat} (hn : n < s.species.length) : (stV s pre).set n (.int (Kct4.status s n : Int)) = stV s (pre ++ [n]) := by
  unfold stV
  refine List.ext_getElem? fun j => ?_
  by_cases h : j < s.species.length
  · by_cases e : n = j
    · subst e
      rw [List.getElem?_set_self (by rw [List.length_map, List.length_range]; exact h), List.getElem?_map, List.getElem?_range h]
      simp
    · rw [List.getElem?_set_ne e, List.getElem?_map, List.getElem?_map, List.getElem?_range h]
      have : (j ∈ pre ++ [n]) ↔ j ∈ pre := by
        rw [List.mem_append, List.mem_singleton]
        exact ⟨fun z => z.elim id fun q => absurd q.symm e, .inl⟩
      simp only [Option.map_some, this]
  · rw [List.getElem?_eq_none (by rw [List.length_set, List.length_map, List.length_range]; omega), List.getElem?_eq_none (by rw [List.length_map, List.length_range]; omega)]
theorem stV_all {s : Abs} {od : List Nat} (h : ∀ k, k < s.species.length → k ∈ od) : stV s od = statV s := by
  unfold stV statV
  refine List.map_congr_left fun m hm => ?_
  rw [if_pos (h m (List.mem_range.mp hm))]
theorem ixN_nat {n j : Nat} (h : j < n) : ixN n (j : Int) = some j := by
  unfold ixN
  rw [if_pos (by omega), if_pos (by omega), Int.toNat_natCast]
section
variable {P : Program} {w : World} {K : PySem.W.Frag} {mg : Str → Option Value} {base : Heap} {t : Adr}
def SdI (P : Program) (w : World) (t : Adr) (HB : Hp) (L : BL) (s : Abs) (od : List Nat) (st dx l j d1 d2 d3 a1 a2 a3 : Addr) (i : Nat) (σ : L2.St) (H' : Hp) : Prop := ∃ v4, σ = [some (.ref st), some (.ref L.b), some (.ref l), some (.ref j), v4] ∧
  (∀ b o, HB b = some o → b ≠ st → H' b = some o) ∧ H' st = some (.ins t.C_Standing dx (stF3 a1 a2 a3)) ∧ H' a3 = some (.lst (stV s (od.take i))) ∧ JudgeAt P w t H' j d1 d2 d3 L s (od.take i)
def sp_Standing_init (t : Adr) : Sp := fun vs H Q _ => ∃ (st dx qq : Addr) (oq : List V) (L : BL) (s : Abs), vs = [.ref st, .ref L.b] ∧ H st = some (.ins t.C_Standing dx []) ∧ H qq = some (.lst oq) ∧ BookAt t H L s ∧ Wf s ∧ Tab t H ∧
  ∀ H', StandAt t H' st s qq → Tab t H' → (∀ b o, H b = some o → b ≠ st → b ≠ t.P_bp → H' b = some o) → Q .non H'
theorem BookAt.notS {H : Hp} {L : BL} {s : Abs} (B : BookAt t H L s) {st C dx : Addr} {fs : List (Str × V)} (h : H st = some (.ins C dx fs)) (hf : fs = [] ∨ ∃ v r, fs = (("group_names" : Str), v) :: r) : ¬ L.In st := by
  have nb : ∀ {wa : Addr} {x : Genus}, fs ≠ genF wa x := fun z => by
    rcases hf with rfl | ⟨v, r, rfl⟩
    · cases z
    · exact absurd (show ("group_names" : Str) = "word" from congrArg Prod.fst (List.cons.inj z).1) (by decide)
  have ns : ∀ {wa : Addr} {x : Species}, fs ≠ spcF wa x := fun z => by
    rcases hf with rfl | ⟨v, r, rfl⟩
    · cases z
    · exact absurd (show ("group_names" : Str) = "genus" from congrArg Prod.fst (List.cons.inj z).1) (by decide)
  have nk : fs ≠ bkF L := fun z => by
    rcases hf with rfl | ⟨v, r, rfl⟩
    · cases z
    · exact absurd (show ("group_names" : Str) = "genera" from congrArg Prod.fst (List.cons.inj z).1) (by decide)
  rintro (rfl | rfl | rfl | rfl | ⟨q, hq, rfl | rfl⟩ | ⟨q, hq, rfl | rfl⟩ | rfl)
  · obtain ⟨dx, e⟩ := B.bk; rw [h] at e; injection e with e; injection e with _ _ e; exact nk e
  · have e := B.lg; rw [h] at e; cases e
  · have e := B.ls; rw [h] at e; cases e
  · have e := B.lk; rw [h] at e; cases e
  · obtain ⟨i, x, _, _, ⟨dx, e⟩, _⟩ := B.gx hq; rw [h] at e; injection e with e; injection e with _ _ e; exact nb e
  · obtain ⟨i, x, _, _, _, e⟩ := B.gx hq; rw [h] at e; cases e
  · obtain ⟨i, x, _, _, ⟨dx, e⟩, _⟩ := B.sx hq; rw [h] at e; injection e with e; injection e with _ _ e; exact ns e
  · obtain ⟨i, x, _, _, _, e⟩ := B.sx hq; rw [h] at e; cases e
  · have e := B.lo; rw [h] at e; cases e
theorem TabOk.keepI {Pt : Addr} {q : Str} {pos : Pos} {H H' : Hp} {st C dx : Addr} {fs : List (Str × V)} (x : TabOk Pt q pos H) (h : H st = some (.ins C dx fs)) (k : ∀ b o, H b = some o → b ≠ st → H' b = some o) : TabOk Pt q pos H' := by
  obtain ⟨ps, e1, e2⟩ := x
  refine ⟨ps, k _ _ e1 (ne_of e1 h (by intro z; cases z)), ?_⟩
  rcases e2 with e2 | ⟨c, e2, e3⟩
  · exact .inl e2
  · exact .inr ⟨c, e2, k _ _ e3 (ne_of e3 h (by intro z; cases z))⟩
theorem ok_Standing_init (T : Txt K mg t) (hB : BaseB mg base) : FnOk P w K mg base CX0 10 t.f_Standing_init t.d_Standing_init ["self", "book"] (sp_Standing_init t) := by
  have G1 := ok_find_group_names (P := P) (w := w) T hB
  have G2 := ok_byS (P := P) (w := w) T hB
  have G3 := ok_find_kind_members (P := P) (w := w) (base := base) T
  have G4 := ok_Judge_init (P := P) (w := w) (base := base) T
  have G5 := ok_Judge_find_status (P := P) (w := w) (base := base) T
  refine T.h_Standing_init.F.ok sc_Standing_init (fun vs H Q E h => ?_) (fun cdv A outer s0 H vs Q E hr h => ?_)
  · obtain ⟨st, dx, qq, oq, L, s, rfl, _⟩ := h
    rfl
  · obtain ⟨st, dx, qq, oq, L, s, rfl, hst, hqq, B, W, hT, k⟩ := h
    have nd := sc_Standing_init.nd
    refine ⟨_, pss_cons (ps_fld (pv 0) (pe_call G1 hr rfl T.h_find_group_names.m T.h_find_group_names.F.kp T.h_find_group_names.b .nil pass0 (pa_cons (pv 1) pa_nil)) rfl)
      (pss_cons (ps_set (i := 2) nd rfl (Or.inl rfl) (pe_call G2 (hr.mono (by decide)) rfl T.h_by_priority.m T.h_by_priority.F.kp T.h_by_priority.b .nil pass0 (pa_cons (pe_fld (pv 1) rfl) pa_nil)))
      (pss_cons (ps_fld (pv 0) (pe_call G3 (hr.mono (by decide)) rfl T.h_find_kind_members.m T.h_find_kind_members.F.kp T.h_find_kind_members.b .nil pass0 (pa_cons (pv 1) (pa_cons (pv 2) pa_nil))) rfl)
      (pss_cons (ps_set (i := 3) nd rfl (Or.inl rfl) (pe_make T.mk_Judge G4 (hr.mono (by decide)) rfl T.mg_Judge T.h_Judge_init.b .nil pass0 (pa_cons (pv 1) pa_nil)))
      (pss_cons (ps_fld (pv 0) (pe_op op_rep (pe_lst (pa_cons pe_non pa_nil)) (pe_callB call_len_seq rfl T.b_len PySem.boot_len (pa_cons (pv 2) pa_nil))) rfl)
      (pss_cons (ps_for PassesOwn.never rfl (pi_list (pv 2)) (pg_name (i := 4) nd rfl (Or.inl rfl))
        (pss_one (ps_asg (pe_meth (pv 3) T.cl_Judge T.h_Judge_find_status.m G5 (hr.mono (by decide)) T.h_Judge_find_status.b .nil pass0 (pa_cons (pv 4) pa_nil)) (pg_sub (pe_fld (pv 0) rfl) (pv 4) set_list))))
      (pss_one (ps_fld (pv 0) (pe_fld (pv 3) rfl) rfl))))))), ?_⟩
    obtain ⟨Pq, hP, _⟩ := id hT
    have nsP : st ≠ t.P_bp := ne_of hst hP (by intro z; cases z)
    have nqP : qq ≠ t.P_bp := ne_of hqq hP (by intro z; cases z)
    have nqs : qq ≠ st := ne_of hqq hst (by intro z; cases z)
    refine ⟨_, rfl, L, s, rfl, B, W, hT, fun a1 H1 k1 na1 sm1 T1 ha1 num1 => ?_⟩
    have hst1 := sm1 _ _ hst nsP
    refine ⟨_, rfl, st, t.C_Standing, dx, [], rfl, hst1, T.cl_Standing, T.n_Standing_group_names, (by decide), ?_⟩
    rw [stF1_put]
    have kp1 : ∀ b o, H1 b = some o → b ≠ st → upd H1 st (.ins t.C_Standing dx (stF1 a1)) b = some o := fun b o e ne => (upd_ne ne).trans e
    have T1' : Tab t (upd H1 st (.ins t.C_Standing dx (stF1 a1))) := TabOk.keepI T1 hst1 kp1
    have B1 := B.sameB hT sm1
    have ns1 := B1.notS hst1 (.inl rfl)
    have B1' : BookAt t (upd H1 st (.ins t.C_Standing dx (stF1 a1))) L s := B1.stay fun b o hin e => kp1 b o e fun z => ns1 (z ▸ hin)
    have ha1' := kp1 _ _ ha1 (ne_of ha1 hst1 (by intro z; cases z))
    have hst1' : upd H1 st (.ins t.C_Standing dx (stF1 a1)) st = some (.ins t.C_Standing dx (stF1 a1)) := upd_same
    have e01 : ∀ b o, H b = some o → b ≠ st → b ≠ t.P_bp → upd H1 st (.ins t.C_Standing dx (stF1 a1)) b = some o := fun b o e n1 n2 => kp1 b o (sm1 b o e n2) n1
    generalize upd H1 st (.ins t.C_Standing dx (stF1 a1)) = H2 at *
    obtain ⟨db2, hb2⟩ := B1'.bk
    obtain ⟨Pq2, hP2, _⟩ := id T1'
    refine ⟨_, rfl, _, _, db2, _, _, rfl, hb2, T.cl_Book, T.n_Book_species, bk_spc L, L, s, rfl, B1', W, T1', fun l H3 od nl sm3 T3 hl3 O => ?_⟩
    have B3 := B1'.sameB T1' sm3
    have hst3 := sm3 _ _ hst1' nsP
    have ha13 := sm3 _ _ ha1' (ne_of ha1' hP2 (by intro z; cases z))
    refine ⟨_, rfl, _, rfl, L, s, l, od, rfl, B3, W, hl3, O, fun a2 H4 k2 na2 sm4 ha24 mem4 fr4 => ?_⟩
    have hq3 : H3 qq = some (.lst oq) := sm3 _ _ (e01 _ _ hqq nqs nqP) nqP
    have hst4 := sm4 _ _ hst3
    refine ⟨_, rfl, st, t.C_Standing, dx, _, rfl, hst4, T.cl_Standing, T.n_Standing_kind_members, (by show 1 < 1000; decide), ?_⟩
    rw [stF2_put]
    have kp4 : ∀ b o, H4 b = some o → b ≠ st → upd H4 st (.ins t.C_Standing dx (stF2 a1 a2)) b = some o := fun b o e ne => (upd_ne ne).trans e
    have T4 : Tab t H4 := TabOk.keep T3 sm4
    have T4' : Tab t (upd H4 st (.ins t.C_Standing dx (stF2 a1 a2))) := TabOk.keepI T4 hst4 kp4
    have B4 := B3.same sm4
    have ns4 := B4.notS hst4 (.inr ⟨_, _, rfl⟩)
    have B4' : BookAt t (upd H4 st (.ins t.C_Standing dx (stF2 a1 a2))) L s := B4.stay fun b o hin e => kp4 b o e fun z => ns4 (z ▸ hin)
    have ha14 := kp4 _ _ (sm4 _ _ ha13) (ne_of (sm4 _ _ ha13) hst4 (by intro z; cases z))
    have ha24' := kp4 _ _ ha24 (ne_of ha24 hst4 (by intro z; cases z))
    have hl4 := kp4 _ _ (sm4 _ _ hl3) (ne_of (sm4 _ _ hl3) hst4 (by intro z; cases z))
    have mem4' : MemN s (upd H4 st (.ins t.C_Standing dx (stF2 a1 a2))) k2 := fun kd => by
      have en : Kct4.namesIn s kd = od.filter (kpred s kd) := namesIn_first O kd
      rw [en]
      rcases mem4 kd with y | ⟨a, y1, y2⟩
      · exact .inl y
      · exact .inr ⟨a, y1, kp4 _ _ y2 (ne_of y2 hst4 (by intro z; cases z))⟩
    have hst4' : upd H4 st (.ins t.C_Standing dx (stF2 a1 a2)) st = some (.ins t.C_Standing dx (stF2 a1 a2)) := upd_same
    have e04 : ∀ b o, H b = some o → b ≠ st → b ≠ t.P_bp → upd H4 st (.ins t.C_Standing dx (stF2 a1 a2)) b = some o := fun b o e n1 n2 => kp4 b o (sm4 b o (sm3 b o (e01 b o e n1 n2) n2)) n1
    generalize upd H4 st (.ins t.C_Standing dx (stF2 a1 a2)) = HB at *
    refine ⟨_, rfl, fun j dj nj ndj _ => ?_⟩
    refine ⟨j, dj, L, rfl, upd_same, fun d1 d2 d3 H6 J6 n1 n2 n3 e6 => ⟨rfl, ?_⟩⟩
    have e6' : ∀ b o, HB b = some o → H6 b = some o := fun b o e => e6 b o (by rw [upd_ne (ne_of_none e nj), upd_ne (ne_of_none e ndj)]; exact e) (ne_of_none e nj)
    have nB : ∀ {d : Addr}, upd (upd HB dj (.own j)) j (.ins t.C_Judge dj []) d = none → HB d = none := fun {d} z => by
      cases q : HB d with
      | none => rfl
      | some o => rw [upd_ne (ne_of_none q nj), upd_ne (ne_of_none q ndj), q] at z; cases z
    have nB1 := nB n1
    have nB2 := nB n2
    have nB3 := nB n3
    have J6s := J6 s
    have hst6 := e6' _ _ hst4'
    refine ⟨(by show 1 ≤ sizeLine; decide), fun lt nlt => ⟨_, rfl, l, _, rfl, .inl (SqL.of ((Same.new0 nlt) _ _ (e6' _ _ hl4))), lt, _, _, rfl, rfl, upd_same, (by omega), ?_, ?_, fun a3 na3 => ?_⟩⟩
    · have := O.len
      have := W.sl
      unfold natsV
      rw [List.length_map]
      omega
    · have := O.len
      have := W.sl
      unfold natsV
      rw [List.length_map, Int.toNat_natCast, O.len]
      show 1 * s.species.length ≤ sizeLine
      exact Nat.le_of_lt (line_of_small (by omega))
    have olen := O.len
    have eV : (List.replicate ((natsV od).length : Int).toNat [V.non]).flatten = stV s [] := by
      unfold natsV
      rw [List.length_map, Int.toNat_natCast, List.flatten_replicate_singleton, olen, stV_nil]
    rw [eV]
    have sm7 : Same H6 (upd (upd H6 lt (.lst [.non])) a3 (.lst (stV s []))) := fun b o e => Same.new0 na3 _ _ (Same.new0 nlt _ _ e)
    have hst7 := sm7 _ _ hst6
    refine ⟨_, rfl, st, t.C_Standing, dx, _, rfl, hst7, T.cl_Standing, T.n_Standing_statuses, (by show 2 < 1000; decide), ?_⟩
    rw [stF3_put]
    have n3st : a3 ≠ st := (ne_of_none ((Same.new0 nlt) _ _ hst6) na3).symm
    have kp7 : ∀ b o, H6 b = some o → b ≠ st → upd (upd (upd H6 lt (.lst [.non])) a3 (.lst (stV s []))) st (.ins t.C_Standing dx (stF3 a1 a2 a3)) b = some o := fun b o e ne => (upd_ne ne).trans (sm7 b o e)
    have ha37 : upd (upd (upd H6 lt (.lst [.non])) a3 (.lst (stV s []))) st (.ins t.C_Standing dx (stF3 a1 a2 a3)) a3 = some (.lst (stV s [])) := (upd_ne n3st).trans upd_same
    obtain ⟨dj6, hj6⟩ := J6s.ob
    obtain ⟨φ1, x1⟩ := J6s.b1.ext
    obtain ⟨φ2, x2⟩ := J6s.b2.ext
    obtain ⟨kv0, hd36, _, _⟩ := id J6s.b3
    have njst : j ≠ st := (ne_of_none hst4' nj).symm
    have a3n : ∀ {b o}, H6 b = some o → b ≠ a3 := fun {b o} e => ne_of_none ((Same.new0 nlt) _ _ e) na3
    have tup7 : ∀ b ys, H6 b = some (.tup ys) → upd (upd (upd H6 lt (.lst [.non])) a3 (.lst (stV s []))) st (.ins t.C_Standing dx (stF3 a1 a2 a3)) b = some (.tup ys) := fun b ys e => kp7 b _ e (ne_of e hst6 (by intro z; cases z))
    have J7 : JudgeAt P w t (upd (upd (upd H6 lt (.lst [.non])) a3 (.lst (stV s []))) st (.ins t.C_Standing dx (stF3 a1 a2 a3))) j d1 d2 d3 L s [] :=
      ⟨⟨dj6, kp7 _ _ hj6 njst⟩, J6s.b1.keep tup7 fun φ e => kp7 _ _ e (ne_of e hst6 (by intro z; cases z)), J6s.b2.keep tup7 fun φ e => kp7 _ _ e (ne_of e hst6 (by intro z; cases z)), let ⟨kv, h1, h2⟩ := J6s.b3; ⟨kv, kp7 _ _ h1 (ne_of h1 hst6 (by intro z; cases z)), h2⟩, J6s.ne⟩
    have n31 : d1 ≠ a3 := a3n x1
    have n32 : d2 ≠ a3 := a3n x2
    have n33 : d3 ≠ a3 := a3n hd36
    have nja3 : j ≠ a3 := a3n hj6
    have fB : ∀ b o, HB b = some o → b ≠ st → upd (upd (upd H6 lt (.lst [.non])) a3 (.lst (stV s []))) st (.ins t.C_Standing dx (stF3 a1 a2 a3)) b = some o := fun b o e ne => kp7 b o (e6' b o e) ne
    have nBa3 : HB a3 = none := by
      cases q : HB a3 with
      | none => rfl
      | some o => exact absurd rfl (a3n (e6' _ _ q))
    have hst8 : upd (upd (upd H6 lt (.lst [.non])) a3 (.lst (stV s []))) st (.ins t.C_Standing dx (stF3 a1 a2 a3)) st = some (.ins t.C_Standing dx (stF3 a1 a2 a3)) := upd_same
    generalize upd (upd (upd H6 lt (.lst [.non])) a3 (.lst (stV s []))) st (.ins t.C_Standing dx (stF3 a1 a2 a3)) = H8 at *
    have nlst : l ≠ st := ne_of hl4 hst4' (by intro z; cases z)
    have nsB := B4'.notS hst4' (.inr ⟨_, _, rfl⟩)
    refine ⟨_, rfl, l, rfl, ⟨_, SqL.of (fB _ _ hl4 nlst)⟩, ?_⟩
    refine for_list (xs := natsV od) (SdI P w t HB L s od st dx l j d1 d2 d3 a1 a2 a3) ⟨none, rfl, fB, hst8, ha37, J7⟩ ?_ ?_ ?_
    · rintro i σ H' _ ⟨v4, _, f, _⟩
      exact SqL.of (f _ _ hl4 nlst)
    · rintro i x σ H9 hx ⟨v4, rfl, f9, hst9, ha39, J9⟩
      obtain ⟨n, hn, rfl⟩ := natsV_get hx
      obtain ⟨et, eo⟩ := take_next hn
      have O' := O
      rw [eo] at O'
      have hnl : n < s.species.length := O.lt (List.mem_of_getElem? hn)
      have B9 : BookAt t H9 L s := B4'.stay fun b o hin e => f9 b o e fun z => nsB (z ▸ hin)
      obtain ⟨dj9, hj9⟩ := J9.ob
      refine ⟨_, rfl, _, dj9, _, rfl, hj9, rfl, _, rfl, j, d1, d2, d3, L, s, od.take i, od.drop (i + 1), n, rfl, B9, W, J9, O', fun H10 J10 kj => ?_⟩
      have hst10 := kj _ _ hst9 (by obtain ⟨φ, z⟩ := J9.b1.ext; exact ne_of hst9 z (by intro z; cases z)) (by obtain ⟨φ, z⟩ := J9.b2.ext; exact ne_of hst9 z (by intro z; cases z)) (by obtain ⟨kv, z, _⟩ := J9.b3; exact ne_of hst9 z (by intro z; cases z))
      have ha310 := kj _ _ ha39 (Ne.symm n31) (Ne.symm n32) (Ne.symm n33)
      have f10 : ∀ b o, HB b = some o → b ≠ st → H10 b = some o := fun b o e ne => kj b o (f9 b o e ne) (ne_of_none e nB1) (ne_of_none e nB2) (ne_of_none e nB3)
      refine ⟨_, rfl, _, _, dx, _, _, rfl, hst10, T.cl_Standing, T.n_Standing_statuses, stF3_st _ _ _, _, rfl, a3, _, _, n, rfl, rfl, ha310, ixN_nat (by unfold stV; rw [List.length_map, List.length_range]; exact hnl), ?_⟩
      rw [stV_set hnl]
      obtain ⟨dj10, hj10⟩ := J10.ob
      have tup11 : ∀ b ys, H10 b = some (.tup ys) → upd H10 a3 (.lst (stV s (od.take i ++ [n]))) b = some (.tup ys) := fun b ys e => (upd_ne (ne_of e ha310 (by intro z; cases z))).trans e
      refine ⟨_, rfl, fun b o e ne => (upd_ne (ne_of_none e nBa3)).trans (f10 b o e ne), (upd_ne (Ne.symm n3st)).trans hst10, by rw [et]; exact upd_same, ?_⟩
      rw [et]
      exact ⟨⟨dj10, (upd_ne nja3).trans hj10⟩, J10.b1.keep tup11 fun φ e => (upd_ne n31).trans e, J10.b2.keep tup11 fun φ e => (upd_ne n32).trans e, let ⟨kv, h1, h2⟩ := J10.b3; ⟨kv, (upd_ne n33).trans h1, h2⟩, J10.ne⟩
    · rintro σ H9 ⟨v4, rfl, f9, hst9, ha39, J9⟩
      have hlen : (natsV od).length = od.length := List.length_map _
      rw [hlen, List.take_length] at ha39 J9
      obtain ⟨dj9, hj9⟩ := J9.ob
      obtain ⟨kv, hd39, _, num⟩ := J9.b3
      refine ⟨_, rfl, _, _, dj9, _, _, rfl, hj9, T.cl_Judge, T.n_Judge_words_found, jg_b3 _ _ _ _, _, rfl, st, t.C_Standing, dx, _, rfl, hst9, T.cl_Standing, T.n_Standing_kind_words, (by show 3 < 1000; decide), ?_⟩
      rw [stF_put]
      have kp : ∀ b o, H9 b = some o → b ≠ st → upd H9 st (.ins t.C_Standing dx (stF a1 a2 a3 d3)) b = some o := fun b o e ne => (upd_ne ne).trans e
      have fE : ∀ b o, HB b = some o → b ≠ st → upd H9 st (.ins t.C_Standing dx (stF a1 a2 a3 d3)) b = some o := fun b o e ne => kp b o (f9 b o e ne) ne
      have hqB := e04 _ _ hqq nqs nqP
      refine k _ ⟨dx, a1, a2, a3, d3, k1, k2, kv, upd_same, fE _ _ ha14 (ne_of ha14 hst4' (by intro z; cases z)), num1, fE _ _ ha24' (ne_of ha24' hst4' (by intro z; cases z)), fun kd => ?_, ?_, kp _ _ hd39 (ne_of hd39 hst9 (by intro z; cases z)), fun kd => ?_, (ne_of_none hqB nBa3).symm, fun kd a e => (ne_of_none hq3 (fr4 kd a e)).symm⟩ (TabOk.keepI T4' hst4' fE) fun b o e n1 n2 => fE b o (e04 b o e n1 n2) n1
      · rcases mem4' kd with y | ⟨a, y1, y2⟩
        · exact .inl y
        · exact .inr ⟨a, y1, fE _ _ y2 (ne_of y2 hst4' (by intro z; cases z))⟩
      · rw [stV_all (fun m hm => O.mem hm)] at ha39
        exact (upd_ne n3st).trans ha39
      · have e := num kd
        have e2 : od.find? (tpred s kd) = Kct4.speciesName s kd := speciesName_first O kd
        rw [← e2]
        exact e
end
end Ns
end
section
set_option Elab.async false
set_option linter.all false
set_option maxRecDepth 100000
set_option maxHeartbeats 2000000
namespace Ns
open PySem PySem.Spec PyProof.Rows L2
open PySem.W (Codec)
open Kct4 (Abs Genus Species Ruled Call)
def ansOf (s : Abs) (c : Call) : List Int := Kct4Neutral.told (Kct4.step s c).2
def Ask (H : Hp) (s : Abs) (c : Call) (Q : VK) : Prop := ∀ (p : Addr) (H' : Hp), H p = none → Same H H' → H' p = some (.lst ((ansOf s c).map V.int)) → Q (.ref p) H'
theorem genusName_lt {s : Abs} {g n : Nat} (h : Kct4.genusName s g = some n) : n < s.genera.length := List.mem_range.mp (List.mem_filter.mp (foremost_mem h)).1
theorem speciesName_lt {s : Abs} {k n : Nat} (h : Kct4.speciesName s k = some n) : n < s.species.length := by
  unfold Kct4.speciesName at h
  split at h
  · cases h
  · exact List.mem_range.mp (List.mem_filter.mp (foremost_mem h)).1
theorem genusName_64 {s : Abs} (W : Wf s) : Kct4.genusName s 64 = none := by
  cases e : Kct4.genusName s 64 with
  | none => rfl
  | some n =>
    have h := (List.mem_filter.mp (foremost_mem e)).2
    rw [Bool.and_eq_true] at h
    have h2 := eq_of_beq h.2
    unfold Kct4.groupOfGenus at h2
    cases q : (s.genera[n]?).bind Genus.type_ with
    | none => rw [q] at h2; cases h2
    | some m =>
      rw [q] at h2
      have := groupIn_lt W (show Kct4.groupIn s m = some 64 from h2)
      omega
theorem s_gn (a1 a2 a3 a4 : Addr) : (stF a1 a2 a3 a4).lookup ("group_names" : Str) = some (.ref a1) := rfl
theorem s_km (a1 a2 a3 a4 : Addr) : (stF a1 a2 a3 a4).lookup ("kind_members" : Str) = some (.ref a2) := rfl
theorem s_st (a1 a2 a3 a4 : Addr) : (stF a1 a2 a3 a4).lookup ("statuses" : Str) = some (.ref a3) := rfl
theorem s_kw (a1 a2 a3 a4 : Addr) : (stF a1 a2 a3 a4).lookup ("kind_words" : Str) = some (.ref a4) := rfl
section
variable {P : Program} {w : World} {K : PySem.W.Frag} {mg : Str → Option Value} {base : Heap} {t : Adr}
def sp_tell_group_name (t : Adr) : Sp := fun vs H Q _ => ∃ (st qq : Addr) (s : Abs) (g : Nat), vs = [.ref st, .int (g : Int)] ∧ StandAt t H st s qq ∧ Ask H s (.genusName g) Q
theorem step_gn (s : Abs) (g : Nat) : Kct4.step s (.genusName g) = if Kct4.GROUPS ≤ g then (s, .num (-22)) else match Kct4.genusName s g with
    | none => (s, .num 0)
    | some n => (s, .some_ [n]) := rfl
theorem ok_tell_group_name (T : Txt K mg t) : FnOk P w K mg base CX0 1 t.f_tell_group_name t.d_tell_group_name ["standing", "group"] (sp_tell_group_name t) := by
  refine T.h_tell_group_name.F.ok sc_tell_group_name (fun vs H Q E h => ?_) (fun cdv A outer s0 H vs Q E hr h => ?_)
  · obtain ⟨st, qq, s, g, rfl, _⟩ := h
    rfl
  · obtain ⟨st, qq, s, g, rfl, ⟨dx, a1, a2, a3, a4, k1', k2', k4', h1, h2, h3, h4, h5, h6, h7, h8, _⟩, k⟩ := h
    obtain ⟨k1, c1⟩ := T.c_NO_GROUP
    obtain ⟨k2, c2⟩ := T.c_WRONG
    obtain ⟨k3, c3⟩ := T.c_NOTHING_THERE
    obtain ⟨k4, c4⟩ := T.c_FOUND
    have hu := hu_of hr
    have nd := sc_tell_group_name.nd
    refine ⟨_, pss_cons (ps_if (pt_cmpR op_ge (pv 1) (pe_glob rfl c1 (v := .int 64) ⟨k1, rfl⟩) (nomark _)) (pss_one (ps_ret (pe_lst (pa_cons (pe_glob rfl c2 (v := .int (-22)) ⟨k2, rfl⟩) pa_nil)))) pss_nil)
      (pss_cons (ps_set (i := 2) nd rfl (Or.inl rfl) (pe_dget1 hu (pe_fld (pv 0) rfl) (pv 1) ⟨rfl, rfl, rfl, rfl⟩))
      (pss_cons (ps_if (pt_cmpR op_isN (pv 2) pe_non (nomark _)) (pss_one (ps_ret (pe_lst (pa_cons (pe_glob rfl c3 (v := .int 0) ⟨k3, rfl⟩) pa_nil)))) pss_nil)
      (pss_one (ps_ret (pe_lst (pa_cons (pe_glob rfl c4 (v := .int 1) ⟨k4, rfl⟩) (pa_cons (pv 2) pa_nil))))))), ?_⟩
    refine ⟨_, rfl, _, _, rfl, rfl, _, rfl, ?_⟩
    rw [show decide ((64 : Int) ≤ (g : Int)) = decide (64 ≤ g) from le_nat]
    unfold Ask ansOf at k
    rw [step_gn] at k
    refine ite2 (fun hg => ?_) (fun hg => ?_)
    · rw [if_pos (show Kct4.GROUPS ≤ g from of_decide_eq_true hg)] at k
      exact ⟨(by show 1 ≤ sizeLine; decide), fun p hp => k p _ hp (Same.new0 hp) upd_same⟩
    rw [if_neg (show ¬ Kct4.GROUPS ≤ g from fun z => hg (decide_eq_true z))] at k
    refine ⟨_, rfl, _, _, dx, _, _, rfl, h1, T.cl_Standing, T.n_Standing_group_names, s_gn _ _ _ _, a1, rfl, .inl ⟨_, .inl h2⟩, _, rfl, _, DGet.k (k := Sum.inl (g : Int)) h2, ?_⟩
    rw [h3 g]
    cases e : Kct4.genusName s g with
    | none =>
      rw [e] at k
      refine ⟨_, rfl, rfl, _, rfl, iteT ?_⟩
      exact ⟨(by show 1 ≤ sizeLine; decide), fun p hp => k p _ hp (Same.new0 hp) upd_same⟩
    | some n =>
      rw [e] at k
      refine ⟨_, rfl, rfl, _, rfl, iteF ?_⟩
      exact ⟨_, rfl, (by show 2 ≤ sizeLine; decide), fun p hp => k p _ hp (Same.new0 hp) upd_same⟩
def sp_tell_status (t : Adr) : Sp := fun vs H Q _ => ∃ (st qq : Addr) (s : Abs) (n : Nat), vs = [.ref st, .int (n : Int)] ∧ StandAt t H st s qq ∧ Ask H s (.status n) Q
theorem step_st (s : Abs) (n : Nat) : Kct4.step s (.status n) = if s.species.length ≤ n then (s, .num (-2)) else (s, .num (Kct4.status s n)) := rfl
theorem statV_len (s : Abs) : (statV s).length = s.species.length := by unfold statV; rw [List.length_map, List.length_range]
theorem statV_get {s : Abs} {n : Nat} (h : n < s.species.length) : (statV s)[n]? = some (.int (Kct4.status s n : Int)) := by unfold statV; rw [List.getElem?_map, List.getElem?_range h]; rfl
theorem ok_tell_status (T : Txt K mg t) : FnOk P w K mg base CX0 1 t.f_tell_status t.d_tell_status ["standing", "species"] (sp_tell_status t) := by
  refine T.h_tell_status.F.ok sc_tell_status (fun vs H Q E h => ?_) (fun cdv A outer s0 H vs Q E hr h => ?_)
  · obtain ⟨st, qq, s, n, rfl, _⟩ := h
    rfl
  · obtain ⟨st, qq, s, n, rfl, ⟨dx, a1, a2, a3, a4, k1', k2', k4', h1, h2, h3, h4, h5, h6, h7, h8, _⟩, k⟩ := h
    obtain ⟨k1, c1⟩ := T.c_MISSING
    refine ⟨_, pss_cons (ps_if (pt_cmpR op_ge (pv 1) (pe_callB call_len_seq rfl T.b_len PySem.boot_len (pa_cons (pe_fld (pv 0) rfl) pa_nil)) (nomark _)) (pss_one (ps_ret (pe_lst (pa_cons (pe_glob rfl c1 (v := .int (-2)) ⟨k1, rfl⟩) pa_nil)))) pss_nil)
      (pss_one (ps_ret (pe_lst (pa_cons (pe_ix ix_list (pe_fld (pv 0) rfl) (pv 1) (fun _ _ => rfl)) pa_nil)))), ?_⟩
    refine ⟨_, rfl, _, rfl, _, _, dx, _, _, rfl, h1, T.cl_Standing, T.n_Standing_statuses, s_st _ _ _ _, a3, _, rfl, .inl (SqL.of h6), _, _, rfl, rfl, _, rfl, ?_⟩
    rw [statV_len, show decide ((s.species.length : Int) ≤ (n : Int)) = decide (s.species.length ≤ n) from le_nat]
    unfold Ask ansOf at k
    rw [step_st] at k
    refine ite2 (fun hg => ?_) (fun hg => ?_)
    · rw [if_pos (of_decide_eq_true hg)] at k
      exact ⟨(by show 1 ≤ sizeLine; decide), fun p hp => k p _ hp (Same.new0 hp) upd_same⟩
    have hn : ¬ s.species.length ≤ n := fun z => hg (decide_eq_true z)
    rw [if_neg hn] at k
    exact ⟨_, rfl, _, _, dx, _, _, rfl, h1, T.cl_Standing, T.n_Standing_statuses, s_st _ _ _ _, _, rfl, a3, _, _, _, rfl, rfl, SqL.of h6, atI_nat (statV_get (Nat.lt_of_not_le hn)), (by show 1 ≤ sizeLine; decide), fun p hp => k p _ hp (Same.new0 hp) upd_same⟩
def sp_tell_kind_member (t : Adr) : Sp := fun vs H Q _ => ∃ (st qq : Addr) (s : Abs) (kd j : Nat), vs = [.ref st, .int (kd : Int), .int (j : Int)] ∧ StandAt t H st s qq ∧ Ask H s (.names kd j) Q
theorem step_nm (s : Abs) (kd j : Nat) : Kct4.step s (.names kd j) = if Kct4.KINDS ≤ kd then (s, .num (-22)) else match (Kct4.namesIn s kd)[j]? with
    | none => (s, .num 0)
    | some n => (s, .some_ [n, Kct4.status s n]) := rfl
theorem natsV_len (l : List Nat) : (natsV l).length = l.length := List.length_map _
theorem natsV_at {l : List Nat} {j n : Nat} (h : l[j]? = some n) : (natsV l)[j]? = some (.int (n : Int)) := by unfold natsV; rw [List.getElem?_map, h]; rfl
theorem ok_tell_kind_member (T : Txt K mg t) : FnOk P w K mg base CX0 1 t.f_tell_kind_member t.d_tell_kind_member ["standing", "kind", "place"] (sp_tell_kind_member t) := by
  refine T.h_tell_kind_member.F.ok sc_tell_kind_member (fun vs H Q E h => ?_) (fun cdv A outer s0 H vs Q E hr h => ?_)
  · obtain ⟨st, qq, s, kd, j, rfl, _⟩ := h
    rfl
  · obtain ⟨st, qq, s, kd, j, rfl, ⟨dx, a1, a2, a3, a4, k1', k2', k4', h1, h2, h3, h4, h5, h6, h7, h8, _⟩, k⟩ := h
    obtain ⟨k1, c1⟩ := T.c_NO_KIND
    obtain ⟨k2, c2⟩ := T.c_WRONG
    obtain ⟨k3, c3⟩ := T.c_NOTHING_THERE
    obtain ⟨k4, c4⟩ := T.c_FOUND
    have hu := hu_of hr
    have nd := sc_tell_kind_member.nd
    refine ⟨_, pss_cons (ps_if (pt_cmpR op_ge (pv 1) (pe_glob rfl c1 (v := .int 256) ⟨k1, rfl⟩) (nomark _)) (pss_one (ps_ret (pe_lst (pa_cons (pe_glob rfl c2 (v := .int (-22)) ⟨k2, rfl⟩) pa_nil)))) pss_nil)
      (pss_cons (ps_set (i := 3) nd rfl (Or.inl rfl) (pe_dget2 hu (pe_fld (pv 0) rfl) (pv 1) (pe_lst pa_nil) ⟨rfl, rfl, rfl, rfl⟩))
      (pss_cons (ps_if (pt_cmpR op_ge (pv 2) (pe_callB call_len_seq rfl T.b_len PySem.boot_len (pa_cons (pv 3) pa_nil)) (nomark _)) (pss_one (ps_ret (pe_lst (pa_cons (pe_glob rfl c3 (v := .int 0) ⟨k3, rfl⟩) pa_nil)))) pss_nil)
      (pss_cons (ps_set (i := 4) nd rfl (Or.inl rfl) (pe_ix ix_list (pv 3) (pv 2) (fun _ _ => rfl)))
      (pss_one (ps_ret (pe_lst (pa_cons (pe_glob rfl c4 (v := .int 1) ⟨k4, rfl⟩) (pa_cons (pv 4) (pa_cons (pe_ix ix_list (pe_fld (pv 0) rfl) (pv 4) (fun _ _ => rfl)) pa_nil))))))))), ?_⟩
    refine ⟨_, rfl, _, _, rfl, rfl, _, rfl, ?_⟩
    rw [show decide ((256 : Int) ≤ (kd : Int)) = decide (256 ≤ kd) from le_nat]
    unfold Ask ansOf at k
    rw [step_nm] at k
    refine ite2 (fun hg => ?_) (fun hg => ?_)
    · rw [if_pos (show Kct4.KINDS ≤ kd from of_decide_eq_true hg)] at k
      exact ⟨(by show 1 ≤ sizeLine; decide), fun p hp => k p _ hp (Same.new0 hp) upd_same⟩
    rw [if_neg (show ¬ Kct4.KINDS ≤ kd from fun z => hg (decide_eq_true z))] at k
    refine ⟨_, rfl, _, _, dx, _, _, rfl, h1, T.cl_Standing, T.n_Standing_kind_members, s_km _ _ _ _, a2, rfl, .inl ⟨_, .inl h4⟩, _, rfl, Nat.zero_le _, fun q hq => ⟨_, DGet.k (k := Sum.inl (kd : Int)) ((Same.new0 hq) _ _ h4), ?_⟩⟩
    have sm := Same.new0 (o := .lst []) hq
    obtain ⟨m, hm, hml⟩ : ∃ m, ((valV k2' (Sum.inl (kd : Int))).getD (.ref q)) = .ref m ∧ upd H q (.lst []) m = some (.lst (natsV (Kct4.namesIn s kd))) := by
      rcases h5 kd with ⟨y1, y2⟩ | ⟨a, y1, y2⟩
      · rw [y1, y2]
        exact ⟨q, rfl, upd_same⟩
      · rw [y1]
        exact ⟨a, rfl, sm _ _ y2⟩
    rw [hm]
    have k' : ∀ (p : Addr) (H' : Hp), upd H q (.lst []) p = none → Same (upd H q (.lst [])) H' → _ → Q (.ref p) H' := fun p H' hp s' h => k p H' (Same.free sm hp) (sm.trans s') h
    refine ⟨_, rfl, _, rfl, m, _, rfl, .inl (SqL.of hml), _, _, rfl, rfl, _, rfl, ?_⟩
    rw [natsV_len, show decide (((Kct4.namesIn s kd).length : Int) ≤ (j : Int)) = decide ((Kct4.namesIn s kd).length ≤ j) from le_nat]
    refine ite2 (fun hj => ?_) (fun hj => ?_)
    · rw [List.getElem?_eq_none (of_decide_eq_true hj)] at k'
      exact ⟨(by show 1 ≤ sizeLine; decide), fun p hp => k' p _ hp (Same.new0 hp) upd_same⟩
    have hj' : j < (Kct4.namesIn s kd).length := Nat.lt_of_not_le fun z => hj (decide_eq_true z)
    have ej := List.getElem?_eq_getElem hj'
    rw [ej] at k'
    have hnl : (Kct4.namesIn s kd)[j] < s.species.length := List.mem_range.mp (List.mem_filter.mp ((namesIn_perm s kd).mem_iff.mp (List.getElem_mem hj'))).1
    refine ⟨_, rfl, _, rfl, m, _, _, _, rfl, rfl, SqL.of hml, atI_nat (natsV_at ej), ?_⟩
    exact ⟨_, rfl, _, rfl, _, _, dx, _, _, rfl, sm _ _ h1, T.cl_Standing, T.n_Standing_statuses, s_st _ _ _ _, _, rfl, a3, _, _, _, rfl, rfl, SqL.of (sm _ _ h6), atI_nat (statV_get hnl), (by show 3 ≤ sizeLine; decide), fun p hp => k' p _ hp (Same.new0 hp) upd_same⟩
end
end Ns
end
section
set_option Elab.async false
set_option linter.all false
set_option maxRecDepth 100000
set_option maxHeartbeats 2000000
namespace Ns
open PySem PySem.Spec PyProof.Rows L2
open PySem.W (Codec)
open Kct4 (Abs Genus Species Ruled Call)
section
variable {P : Program} {w : World} {K : PySem.W.Frag} {mg : Str → Option Value} {base : Heap} {t : Adr}
def sp_tell_kind_name (t : Adr) : Sp := fun vs H Q _ => ∃ (L : BL) (st qq : Addr) (s : Abs) (kd : Nat), vs = [.ref L.b, .ref st, .int (kd : Int)] ∧ BookAt t H L s ∧ Wf s ∧ StandAt t H st s qq ∧ Ask H s (.name kd) Q
theorem step_na (s : Abs) (kd : Nat) : Kct4.step s (.name kd) = if Kct4.KINDS ≤ kd then (s, .num (-22)) else match Kct4.nameOf s kd with
    | none => (s, .num 0)
    | some x => (s, .name x.1 x.2 (Kct4.words s x).1 (Kct4.words s x).2) := rfl
theorem word_len {s : Abs} (W : Wf s) : (∀ x ∈ s.genera, x.word.length ≤ 24) ∧ ∀ x ∈ s.species, x.word.length ≤ 24 := by
  constructor
  · intro x hx
    have h := W.gw x hx
    unfold Kct4.isGreat at h
    rw [Bool.and_eq_true, Bool.and_eq_true] at h
    exact of_decide_eq_true h.1.2
  · intro x hx
    have h := W.sw x hx
    unfold Kct4.isWord at h
    rw [Bool.and_eq_true, Bool.and_eq_true] at h
    exact of_decide_eq_true h.1.2
theorem wordV_len (l : List Nat) : (wordV l).length = l.length := List.length_map _
theorem ok_tell_kind_name (T : Txt K mg t) : FnOk P w K mg base CX0 1 t.f_tell_kind_name t.d_tell_kind_name ["book", "standing", "kind"] (sp_tell_kind_name t) := by
  refine T.h_tell_kind_name.F.ok sc_tell_kind_name (fun vs H Q E h => ?_) (fun cdv A outer s0 H vs Q E hr h => ?_)
  · obtain ⟨L, st, qq, s, kd, rfl, _⟩ := h
    rfl
  · obtain ⟨L, st, qq, s, kd, rfl, B, W, ⟨dx, a1, a2, a3, a4, k1', k2', k4', h1, h2, h3, h4, h5, h6, h7, h8, _⟩, k⟩ := h
    obtain ⟨k1, c1⟩ := T.c_NO_KIND
    obtain ⟨k2, c2⟩ := T.c_WRONG
    obtain ⟨k3, c3⟩ := T.c_NOTHING_THERE
    obtain ⟨k4, c4⟩ := T.c_FOUND
    have hu := hu_of hr
    have nd := sc_tell_kind_name.nd
    refine ⟨_, pss_cons (ps_if (pt_cmpR op_ge (pv 2) (pe_glob rfl c1 (v := .int 256) ⟨k1, rfl⟩) (nomark _)) (pss_one (ps_ret (pe_lst (pa_cons (pe_glob rfl c2 (v := .int (-22)) ⟨k2, rfl⟩) pa_nil)))) pss_nil)
      (pss_cons (ps_set (i := 3) nd rfl (Or.inl rfl) (pe_dget1 hu (pe_fld (pv 1) rfl) (pe_ix ix_list (pe_fld (pv 0) rfl) (pv 2) (fun _ _ => rfl)) ⟨rfl, rfl, rfl, rfl⟩))
      (pss_cons (ps_set (i := 4) nd rfl (Or.inl rfl) (pe_dget1 hu (pe_fld (pv 1) rfl) (pv 2) ⟨rfl, rfl, rfl, rfl⟩))
      (pss_cons (ps_if (PW.pt (pw_or (pt_cmpR op_isN (pv 3) pe_non (nomark _)) (pw_or1 (pt_cmpR op_isN (pv 4) pe_non (nomark _))))) (pss_one (ps_ret (pe_lst (pa_cons (pe_glob rfl c3 (v := .int 0) ⟨k3, rfl⟩) pa_nil)))) pss_nil)
      (pss_cons (ps_set (i := 5) nd rfl (Or.inl rfl) (pe_callTy call_list_of rfl T.b_list (by rfl) (pa_cons (pe_fld (pe_ix ix_list (pe_fld (pv 0) rfl) (pv 3) (fun _ _ => rfl)) rfl) pa_nil)))
      (pss_cons (ps_set (i := 6) nd rfl (Or.inl rfl) (pe_callTy call_list_of rfl T.b_list (by rfl) (pa_cons (pe_fld (pe_ix ix_list (pe_fld (pv 0) rfl) (pv 4) (fun _ _ => rfl)) rfl) pa_nil)))
      (pss_one (ps_ret (pe_op op_cat (pe_op op_cat (pe_lst (pa_cons (pe_glob rfl c4 (v := .int 1) ⟨k4, rfl⟩) (pa_cons (pv 3) (pa_cons (pv 4) (pa_cons (pe_callB call_len_seq rfl T.b_len PySem.boot_len (pa_cons (pv 5) pa_nil)) (pa_cons (pe_callB call_len_seq rfl T.b_len PySem.boot_len (pa_cons (pv 6) pa_nil)) pa_nil)))))) (pv 5)) (pv 6))))))))), ?_⟩
    refine ⟨_, rfl, _, _, rfl, rfl, _, rfl, ?_⟩
    rw [show decide ((256 : Int) ≤ (kd : Int)) = decide (256 ≤ kd) from le_nat]
    unfold Ask ansOf at k
    rw [step_na] at k
    refine ite2 (fun hg => ?_) (fun hg => ?_)
    · rw [if_pos (show Kct4.KINDS ≤ kd from of_decide_eq_true hg)] at k
      exact ⟨(by show 1 ≤ sizeLine; decide), fun p hp => k p _ hp (Same.new0 hp) upd_same⟩
    have hkd : kd < 256 := Nat.lt_of_not_le fun z => hg (decide_eq_true z)
    rw [if_neg (show ¬ Kct4.KINDS ≤ kd from Nat.not_le.mpr hkd)] at k
    have no : Kct4.nameOf s kd = none → Q (.ref 0) H → True := fun _ _ => trivial
    obtain ⟨db, hb⟩ := B.bk
    have hgl : kd < s.groupOf.length := by rw [W.ol]; exact hkd
    have eg := List.getElem?_eq_getElem hgl
    generalize s.groupOf[kd] = go at eg
    have hge : (s.groupOf.map encG)[kd]? = some (encG go) := by rw [List.getElem?_map, eg]; rfl
    obtain ⟨g, hgo, hgn⟩ : ∃ g : Nat, encG go = kV (Sum.inl (g : Int)) ∧ (go.bind (Kct4.genusName s)) = Kct4.genusName s g := by
      cases go with
      | none => exact ⟨64, rfl, by rw [genusName_64 W]; rfl⟩
      | some g => exact ⟨g, rfl, rfl⟩
    have en : Kct4.nameOf s kd = match go.bind (Kct4.genusName s), Kct4.speciesName s kd with
        | some a, some b => some (a, b)
        | _, _ => none := by
      unfold Kct4.nameOf
      rw [eg]
      cases go with
      | none => rfl
      | some g => rfl
    rw [en, hgn] at k
    refine ⟨_, rfl, _, _, dx, _, _, rfl, h1, T.cl_Standing, T.n_Standing_group_names, s_gn _ _ _ _, a1, rfl, .inl ⟨_, .inl h2⟩, _, rfl, _, _, db, _, _, rfl, hb, T.cl_Book, T.n_Book_groups, bk_grp L, _, rfl, _, _, _, _, rfl, rfl, SqL.of B.lo, atI_nat hge, _, by rw [hgo]; exact DGet.k (k := Sum.inl (g : Int)) h2, ?_⟩
    rw [h3 g]
    refine ⟨_, rfl, _, _, dx, _, _, rfl, h1, T.cl_Standing, T.n_Standing_kind_words, s_kw _ _ _ _, a4, rfl, .inl ⟨_, .inl h7⟩, _, rfl, _, DGet.k (k := Sum.inl (kd : Int)) h7, ?_⟩
    rw [h8 kd]
    cases e1 : Kct4.genusName s g with
    | none =>
      rw [e1] at k
      refine ⟨_, rfl, rfl, _, rfl, iteT (iteT ?_)⟩
      exact ⟨(by show 1 ≤ sizeLine; decide), fun p hp => k p _ hp (Same.new0 hp) upd_same⟩
    | some a =>
      refine ⟨_, rfl, rfl, _, rfl, iteF ?_⟩
      cases e2 : Kct4.speciesName s kd with
      | none =>
        rw [e1, e2] at k
        refine ⟨_, rfl, rfl, _, rfl, iteT ?_⟩
        exact ⟨(by show 1 ≤ sizeLine; decide), fun p hp => k p _ hp (Same.new0 hp) upd_same⟩
      | some b =>
        rw [e1, e2] at k
        refine ⟨_, rfl, rfl, _, rfl, iteF ?_⟩
        have hal := genusName_lt e1
        have hbl := speciesName_lt e2
        have ex := List.getElem?_eq_getElem hal
        have ey := List.getElem?_eq_getElem hbl
        have wl1 := (word_len W).1 _ (List.getElem_mem hal)
        have wl2 := (word_len W).2 _ (List.getElem_mem hbl)
        generalize s.genera[a] = x at ex wl1
        generalize s.species[b] = y at ey wl2
        obtain ⟨p, dp, p1, p2, p3, p4⟩ := B.genRef ex
        obtain ⟨q, dq, q1, q2, q3, q4⟩ := B.spcRef ey
        refine ⟨_, rfl, _, _, db, _, _, rfl, hb, T.cl_Book, T.n_Book_genera, bk_gen L, _, rfl, _, _, _, _, rfl, rfl, SqL.of B.lg, atI_nat p2, _, _, dp, _, _, rfl, p3, T.cl_Genus, T.n_Genus_word, gf_word _ _, p.2, _, rfl, .inr (SqT.of p4), fun l1 n1 => ?_⟩
        have sm1 := Same.new0 (o := .lst (wordV x.word)) n1
        have hl1 : upd H l1 (.lst (wordV x.word)) l1 = some (.lst (wordV x.word)) := upd_same
        generalize upd H l1 (.lst (wordV x.word)) = H1 at *
        have B1 := B.same sm1
        obtain ⟨db1, hb1⟩ := B1.bk
        refine ⟨_, rfl, _, _, db1, _, _, rfl, hb1, T.cl_Book, T.n_Book_species, bk_spc L, _, rfl, _, _, _, _, rfl, rfl, SqL.of B1.ls, atI_nat q2, _, _, dq, _, _, rfl, sm1 _ _ q3, T.cl_Species, T.n_Species_word, sf_word _ _, q.2, _, rfl, .inr (SqT.of (sm1 _ _ q4)), fun l2 n2 => ?_⟩
        have sm2 := Same.new0 (o := .lst (wordV y.word)) n2
        have hl2 : upd H1 l2 (.lst (wordV y.word)) l2 = some (.lst (wordV y.word)) := upd_same
        have hl12 := sm2 _ _ hl1
        have sm12 := sm1.trans sm2
        generalize upd H1 l2 (.lst (wordV y.word)) = H2 at *
        refine ⟨_, rfl, _, rfl, _, rfl, l1, _, rfl, .inl (SqL.of hl12), _, rfl, l2, _, rfl, .inl (SqL.of hl2), (by show 5 ≤ sizeLine; decide), fun l3 n3 => ?_⟩
        have sm3 := Same.new0 (o := .lst [.int 1, .int (a : Int), .int (b : Int), .int ((wordV x.word).length : Int), .int ((wordV y.word).length : Int)]) n3
        refine ⟨_, rfl, l3, l1, _, _, rfl, rfl, upd_same, sm3 _ _ hl12, ?_, fun l4 n4 => ?_⟩
        · rw [wordV_len]
          show 5 + x.word.length ≤ sizeLine
          exact Nat.le_of_lt (line_of_small (by omega))
        have sm4 := Same.new0 (o := .lst ([.int 1, .int (a : Int), .int (b : Int), .int ((wordV x.word).length : Int), .int ((wordV y.word).length : Int)] ++ wordV x.word)) n4
        refine ⟨_, rfl, l4, l2, _, _, rfl, rfl, upd_same, sm4 _ _ (sm3 _ _ hl2), ?_, fun l5 n5 => ?_⟩
        · rw [List.length_append, wordV_len, wordV_len]
          show 5 + x.word.length + y.word.length ≤ sizeLine
          exact Nat.le_of_lt (line_of_small (by omega))
        have sm5 := Same.new0 (o := .lst ([.int 1, .int (a : Int), .int (b : Int), .int ((wordV x.word).length : Int), .int ((wordV y.word).length : Int)] ++ wordV x.word ++ wordV y.word)) n5
        refine k l5 _ (Same.free (sm12.trans (sm3.trans sm4)) n5) (sm12.trans (sm3.trans (sm4.trans sm5))) (upd_same.trans ?_)
        refine congrArg (fun z => some (HO.lst z)) ?_
        rw [wordV_len, wordV_len]
        show _ = (1 :: Kct4Neutral.nums ([a, b, (Kct4.genusWord s a).length, (Kct4.speciesWord s b).length] ++ Kct4.genusWord s a ++ Kct4.speciesWord s b)).map V.int
        rw [genWord ex, spcWord ey]
        unfold Kct4Neutral.nums wordV
        rw [List.map_cons, List.map_map, List.map_append, List.map_append]
        rfl
end
end Ns
end
section
set_option Elab.async false
set_option linter.all false
set_option maxRecDepth 100000
set_option maxHeartbeats 2000000
namespace Ns
open PySem PySem.Spec PyProof.Rows L2
open PySem.W (Codec)
open Kct4 (Abs Genus Species Ruled Call)
theorem ps_dead {X : Cx} {st : Stmt} : PS X st (fun _ _ _ => False) := fun _ _ _ _ _ _ h => h.elim
theorem ifEq {p q : Int} {A B : Prop} (h : p = q) (a : A) : if decide (V.int p = V.int q) = true then A else B := by
  rw [if_pos (decide_eq_true (by rw [h]))]
  exact a
theorem ifNe {p q : Int} {A B : Prop} (h : p ≠ q) (b : B) : if decide (V.int p = V.int q) = true then A else B := by
  rw [if_neg (by rw [decide_eq_false (fun z => h (V.int.inj z))]; exact Bool.false_ne_true)]
  exact b
theorem nat_of {z : Int} (h : 0 ≤ z) : ∃ n : Nat, z = (n : Int) := ⟨z.toNat, by omega⟩
theorem row_all {l : List Int} (h : l.all (fun (z : Int) => Kct4Neutral.natural z 8) = true) : ∀ z ∈ l, 0 ≤ z := fun z hz => asked_nat (List.all_eq_true.mp h z hz)
section
variable {P : Program} {w : World} {K : PySem.W.Frag} {mg : Str → Option Value} {base : Heap} {t : Adr}
def sp_answer_telling (t : Adr) (K : PySem.W.Frag) : Sp := fun vs H Q _ => ∃ (L : BL) (s : Abs) (r dx a : Addr) (ns : List Int) (i j : Nat) (c : List (List Int)) (p : Int), vs = [.ref L.b, .int p, .ref r] ∧ At t K H L s r dx a ns (i + 1) ∧ ns.length ≤ 30000 ∧ ns[i]? = some p ∧ p ≤ 6 ∧
  Parsed ns i c j ∧ Kct4Neutral.asked1 c = true ∧ ContI t H L s r dx a j c Q
theorem ok_answer_telling (T : Txt K mg t) : FnOk P w K mg base CX0 6 t.f_answer_telling t.d_answer_telling ["book", "call", "reader"] (sp_answer_telling t K) := by
  have G0 := ok_Book_begin (P := P) (w := w) (base := base) T
  have G1 := ok_answer_genus (P := P) (w := w) (base := base) T
  have G2 := ok_answer_species (P := P) (w := w) (base := base) T
  have G3 := ok_answer_tie (P := P) (w := w) (base := base) T
  have G4 := ok_answer_rule (P := P) (w := w) (base := base) T
  have G5 := ok_answer_kind (P := P) (w := w) (base := base) T
  have G6 := ok_answer_group (P := P) (w := w) (base := base) T
  refine T.h_answer_telling.F.ok sc_answer_telling (fun vs H Q E h => ?_) (fun cdv A outer s0 H vs Q E hr h => ?_)
  · obtain ⟨L, s, r, dx, a, ns, i, j, c, p, rfl, _⟩ := h
    rfl
  · obtain ⟨L, s, r, dx, a, ns, i, j, c, p, rfl, X, hl, hp, hp6, hP, hA, k⟩ := h
    obtain ⟨k0, c0⟩ := T.c_BEGIN
    obtain ⟨k1, c1⟩ := T.c_GENUS
    obtain ⟨k2, c2⟩ := T.c_SPECIES
    obtain ⟨k3, c3⟩ := T.c_TIE
    obtain ⟨k4, c4⟩ := T.c_RULE
    obtain ⟨k5, c5⟩ := T.c_KIND
    obtain ⟨k6, c6⟩ := T.c_GROUP
    refine ⟨_, pss_cons (ps_if (pt_cmpR op_eq (pv 1) (pe_glob rfl c0 (v := .int 0) ⟨k0, rfl⟩) (nomark _)) (pss_one (ps_ret (pe_meth0 (pv 0) T.cl_Book T.h_Book_begin.m G0 (hr.mono (by decide)) T.h_Book_begin.b .nil pass0))) pss_nil)
      (pss_cons (ps_if (pt_cmpR op_eq (pv 1) (pe_glob rfl c1 (v := .int 1) ⟨k1, rfl⟩) (nomark _)) (pss_one (ps_ret (pe_call G1 hr rfl T.h_answer_genus.m T.h_answer_genus.F.kp T.h_answer_genus.b .nil pass0 (pa_cons (pv 0) (pa_cons (pv 2) pa_nil))))) pss_nil)
      (pss_cons (ps_if (pt_cmpR op_eq (pv 1) (pe_glob rfl c2 (v := .int 2) ⟨k2, rfl⟩) (nomark _)) (pss_one (ps_ret (pe_call G2 hr rfl T.h_answer_species.m T.h_answer_species.F.kp T.h_answer_species.b .nil pass0 (pa_cons (pv 0) (pa_cons (pv 2) pa_nil))))) pss_nil)
      (pss_cons (ps_if (pt_cmpR op_eq (pv 1) (pe_glob rfl c3 (v := .int 3) ⟨k3, rfl⟩) (nomark _)) (pss_one (ps_ret (pe_call G3 (hr.mono (by decide)) rfl T.h_answer_tie.m T.h_answer_tie.F.kp T.h_answer_tie.b .nil pass0 (pa_cons (pv 0) (pa_cons (pv 2) pa_nil))))) pss_nil)
      (pss_cons (ps_if (pt_cmpR op_eq (pv 1) (pe_glob rfl c4 (v := .int 4) ⟨k4, rfl⟩) (nomark _)) (pss_one (ps_ret (pe_call G4 (hr.mono (by decide)) rfl T.h_answer_rule.m T.h_answer_rule.F.kp T.h_answer_rule.b .nil pass0 (pa_cons (pv 0) (pa_cons (pv 2) pa_nil))))) pss_nil)
      (pss_cons (ps_if (pt_cmpR op_eq (pv 1) (pe_glob rfl c5 (v := .int 5) ⟨k5, rfl⟩) (nomark _)) (pss_one (ps_ret (pe_call G5 (hr.mono (by decide)) rfl T.h_answer_kind.m T.h_answer_kind.F.kp T.h_answer_kind.b .nil pass0 (pa_cons (pv 0) (pa_cons (pv 2) pa_nil))))) pss_nil)
      (pss_cons (ps_if (pt_cmpR op_eq (pv 1) (pe_glob rfl c6 (v := .int 6) ⟨k6, rfl⟩) (nomark _)) (pss_one (ps_ret (pe_call G6 (hr.mono (by decide)) rfl T.h_answer_group.m T.h_answer_group.F.kp T.h_answer_group.b .nil pass0 (pa_cons (pv 0) (pa_cons (pv 2) pa_nil))))) pss_nil)
      (pss_one ps_dead))))))), ?_⟩
    cases hP with
    | begin_ h0 =>
      obtain rfl : (0 : Int) = p := Option.some.inj (h0.symm.trans hp)
      refine ⟨_, rfl, rfl, _, rfl, ifEq rfl ?_⟩
      obtain ⟨db, hb⟩ := X.B.bk
      refine ⟨_, rfl, _, db, _, rfl, hb, rfl, L.b, db, _, rfl, hb, .inr ⟨L, rfl⟩, fun L' H' B' e n kp => ?_⟩
      have hrb : r ≠ L.b := fun z => X.B.notR X.R (by rw [z]; exact .inl rfl)
      refine k H' L' 0 rfl B' e (kp _ _ X.R hrb) (fun q hq => ?_) (fun q o e2 nin _ => kp q o e2 fun z => nin (.inl z)) (fun q o e2 => ?_)
      · rcases n q hq with z | z
        · exact .inl (.inl z)
        · exact .inr z
      · by_cases z : q = L.b
        · rw [z, ← e]
          obtain ⟨d, hd⟩ := B'.bk
          exact ⟨_, hd⟩
        · exact ⟨o, kp q o e2 z⟩
    | @genus d n h0 h1 h2 h3 =>
      obtain rfl : (1 : Int) = p := Option.some.inj (h0.symm.trans hp)
      have hA : (Kct4Neutral.natural d 32 && ((ns.drop (i + 3)).take n).all (fun (z : Int) => Kct4Neutral.natural z 8)) = true := hA
      rw [Bool.and_eq_true] at hA
      obtain ⟨d, rfl⟩ := nat_of (asked_nat hA.1)
      refine ⟨_, rfl, rfl, _, rfl, ifNe (by decide) ⟨_, rfl, rfl, _, rfl, ifEq rfl ?_⟩⟩
      exact ⟨_, rfl, _, rfl, L, s, r, dx, a, ns, i, d, n, rfl, X, h1, h2, h3, hl, row_all hA.2, k⟩
    | @species g d ty n h0 h1 h2 h3 h4 h5 =>
      obtain rfl : (2 : Int) = p := Option.some.inj (h0.symm.trans hp)
      have hA : (Kct4Neutral.natural g 32 && Kct4Neutral.natural d 32 && Kct4Neutral.natural ty 32 && ((ns.drop (i + 5)).take n).all (fun (z : Int) => Kct4Neutral.natural z 8)) = true := hA
      rw [Bool.and_eq_true, Bool.and_eq_true, Bool.and_eq_true] at hA
      obtain ⟨g, rfl⟩ := nat_of (asked_nat hA.1.1.1)
      obtain ⟨d, rfl⟩ := nat_of (asked_nat hA.1.1.2)
      obtain ⟨ty, rfl⟩ := nat_of (asked_nat hA.1.2)
      refine ⟨_, rfl, rfl, _, rfl, ifNe (by decide) ⟨_, rfl, rfl, _, rfl, ifNe (by decide) ⟨_, rfl, rfl, _, rfl, ifEq rfl ?_⟩⟩⟩
      exact ⟨_, rfl, _, rfl, L, s, r, dx, a, ns, i, g, d, ty, n, rfl, X, h1, h2, h3, h4, h5, hl, row_all hA.2, k⟩
    | @three p' x y h0 h1 h2 h3 =>
      obtain rfl : p' = p := Option.some.inj (h0.symm.trans hp)
      rcases h1 with rfl | rfl | rfl | rfl
      · have hA : (Kct4Neutral.natural x 32 && Kct4Neutral.natural y 32) = true := hA
        rw [Bool.and_eq_true] at hA
        obtain ⟨x, rfl⟩ := nat_of (asked_nat hA.1)
        obtain ⟨y, rfl⟩ := nat_of (asked_nat hA.2)
        refine ⟨_, rfl, rfl, _, rfl, ifNe (by decide) ⟨_, rfl, rfl, _, rfl, ifNe (by decide) ⟨_, rfl, rfl, _, rfl, ifNe (by decide) ⟨_, rfl, rfl, _, rfl, ifEq rfl ?_⟩⟩⟩⟩
        exact ⟨_, rfl, _, rfl, L, s, r, dx, a, ns, i, x, y, rfl, X, h2, h3, k⟩
      · have hA : (Kct4Neutral.natural x 32 && Kct4Neutral.natural y 32) = true := hA
        rw [Bool.and_eq_true] at hA
        obtain ⟨x, rfl⟩ := nat_of (asked_nat hA.1)
        obtain ⟨y, rfl⟩ := nat_of (asked_nat hA.2)
        refine ⟨_, rfl, rfl, _, rfl, ifNe (by decide) ⟨_, rfl, rfl, _, rfl, ifNe (by decide) ⟨_, rfl, rfl, _, rfl, ifNe (by decide) ⟨_, rfl, rfl, _, rfl, ifNe (by decide) ⟨_, rfl, rfl, _, rfl, ifNe (by decide) ⟨_, rfl, rfl, _, rfl, ifEq rfl ?_⟩⟩⟩⟩⟩⟩
        exact ⟨_, rfl, _, rfl, L, s, r, dx, a, ns, i, x, y, rfl, X, h2, h3, k⟩
      · have hA : (Kct4Neutral.natural x 32 && Kct4Neutral.natural y 32) = true := hA
        rw [Bool.and_eq_true] at hA
        obtain ⟨x, rfl⟩ := nat_of (asked_nat hA.1)
        obtain ⟨y, rfl⟩ := nat_of (asked_nat hA.2)
        refine ⟨_, rfl, rfl, _, rfl, ifNe (by decide) ⟨_, rfl, rfl, _, rfl, ifNe (by decide) ⟨_, rfl, rfl, _, rfl, ifNe (by decide) ⟨_, rfl, rfl, _, rfl, ifNe (by decide) ⟨_, rfl, rfl, _, rfl, ifNe (by decide) ⟨_, rfl, rfl, _, rfl, ifNe (by decide) ⟨_, rfl, rfl, _, rfl, ifEq rfl ?_⟩⟩⟩⟩⟩⟩⟩
        exact ⟨_, rfl, _, rfl, L, s, r, dx, a, ns, i, x, y, rfl, X, h2, h3, k⟩
      · exact absurd hp6 (by decide)
    | @rule_ x y z h0 h1 h2 h3 =>
      obtain rfl : (4 : Int) = p := Option.some.inj (h0.symm.trans hp)
      have hA : (Kct4Neutral.natural x 32 && Kct4Neutral.natural y 32 && Kct4Neutral.natural z 32) = true := hA
      rw [Bool.and_eq_true, Bool.and_eq_true] at hA
      obtain ⟨x, rfl⟩ := nat_of (asked_nat hA.1.1)
      obtain ⟨y, rfl⟩ := nat_of (asked_nat hA.1.2)
      obtain ⟨z, rfl⟩ := nat_of (asked_nat hA.2)
      refine ⟨_, rfl, rfl, _, rfl, ifNe (by decide) ⟨_, rfl, rfl, _, rfl, ifNe (by decide) ⟨_, rfl, rfl, _, rfl, ifNe (by decide) ⟨_, rfl, rfl, _, rfl, ifNe (by decide) ⟨_, rfl, rfl, _, rfl, ifEq rfl ?_⟩⟩⟩⟩⟩
      exact ⟨_, rfl, _, rfl, L, s, r, dx, a, ns, i, x, y, z, rfl, X, h1, h2, h3, k⟩
    | @two p' x h0 h1 h2 =>
      obtain rfl : p' = p := Option.some.inj (h0.symm.trans hp)
      rcases h1 with rfl | rfl | rfl <;> exact absurd hp6 (by decide)
def ContA (t : Adr) (H : Hp) (s : Abs) (r dx a : Addr) (j : Nat) (c : List (List Int)) (Q : VK) : Prop :=
  ∀ (q : Addr) (H' : Hp), H q = none → H' q = some (.lst ((Kct4Neutral.step s c).2.map V.int)) → H' r = some (.ins t.C_Reader dx (rdF a j)) → (∀ b o, H b = some o → b ≠ r → H' b = some o) → Q (.ref q) H'
theorem contAsk {H : Hp} {s : Abs} {r dx a : Addr} {i j : Nat} {c : List (List Int)} {cc : Call} {Q : VK} (hr : H r = some (.ins t.C_Reader dx (rdF a i))) (k : ContA t H s r dx a j c Q) (hc : Kct4Neutral.call c = cc) : Ask (upd H r (.ins t.C_Reader dx (rdF a j))) s cc Q := by
  intro p H' hp sm h
  have hpr : p ≠ r := fun z => by rw [z, upd_same] at hp; cases hp
  refine k p H' (by rw [upd_ne hpr] at hp; exact hp) ?_ (sm _ _ upd_same) fun b o e ne => sm _ _ ((upd_ne ne).trans e)
  rw [h]
  unfold ansOf
  rw [← hc]
  rfl
def sp_answer_names (t : Adr) (K : PySem.W.Frag) : Sp := fun vs H Q _ => ∃ (L : BL) (s : Abs) (st qq r dx a : Addr) (ns : List Int) (i x y : Nat), vs = [.ref st, .ref r] ∧ At t K H L s r dx a ns (i + 1) ∧ StandAt t H st s qq ∧ st ≠ r ∧ ns[i + 1]? = some (x : Int) ∧ ns[i + 2]? = some (y : Int) ∧
  ContA t H s r dx a (i + 3) [[10, (x : Int), (y : Int)]] Q
theorem ok_answer_names (T : Txt K mg t) : FnOk P w K mg base CX0 3 t.f_answer_names t.d_answer_names ["standing", "reader"] (sp_answer_names t K) := by
  have GT := ok_Reader_take_number (P := P) (w := w) (base := base) T
  have GM := ok_tell_kind_member (P := P) (w := w) (base := base) T
  refine T.h_answer_names.F.ok sc_answer_names (fun vs H Q E h => ?_) (fun cdv A outer s0 H vs Q E hr h => ?_)
  · obtain ⟨L, s, st, qq, r, dx, a, ns, i, x, y, rfl, _⟩ := h
    rfl
  · obtain ⟨L, s, st, qq, r, dx, a, ns, i, x, y, rfl, X, S, hne, h1, h2, k⟩ := h
    refine ⟨_, pss_cons (ps_set (i := 2) sc_answer_names.nd rfl (Or.inl rfl) (pe_meth0 (pv 1) T.cl_Reader T.h_Reader_take_number.m GT (hr.mono (by decide)) T.h_Reader_take_number.b .nil pass0))
      (pss_cons (ps_set (i := 3) sc_answer_names.nd rfl (Or.inl rfl) (pe_meth0 (pv 1) T.cl_Reader T.h_Reader_take_number.m GT (hr.mono (by decide)) T.h_Reader_take_number.b .nil pass0))
      (pss_one (ps_ret (pe_call GM (hr.mono (by decide)) rfl T.h_tell_kind_member.m T.h_tell_kind_member.F.kp T.h_tell_kind_member.b .nil pass0 (pa_cons (pv 0) (pa_cons (pv 2) (pa_cons (pv 3) pa_nil))))))), ?_⟩
    refine ⟨_, rfl, r, dx, _, rfl, X.R, rfl, r, dx, a, ns, i + 1, _, rfl, X.R, X.A.sq, h1, ?_⟩
    have X1 := X.take (i + 2)
    refine ⟨_, rfl, r, dx, _, rfl, X1.R, rfl, r, dx, a, ns, i + 2, _, rfl, X1.R, X1.A.sq, h2, ?_⟩
    rw [upd_upd]
    exact ⟨_, rfl, _, rfl, _, rfl, st, qq, s, x, y, rfl, S.keep X.R hne keep_upd, contAsk X.R k rfl⟩
def sp_answer_question (t : Adr) (K : PySem.W.Frag) : Sp := fun vs H Q _ => ∃ (L : BL) (s : Abs) (st qq r dx a : Addr) (ns : List Int) (i j : Nat) (c : List (List Int)) (p : Int), vs = [.ref L.b, .ref st, .int p, .ref r] ∧ At t K H L s r dx a ns (i + 1) ∧ StandAt t H st s qq ∧ st ≠ r ∧ ns[i]? = some p ∧ ¬ p ≤ 6 ∧
  Parsed ns i c j ∧ Kct4Neutral.asked1 c = true ∧ ContA t H s r dx a j c Q
theorem ok_answer_question (T : Txt K mg t) : FnOk P w K mg base CX0 4 t.f_answer_question t.d_answer_question ["book", "standing", "call", "reader"] (sp_answer_question t K) := by
  have GT := ok_Reader_take_number (P := P) (w := w) (base := base) T
  have G7 := ok_tell_group_name (P := P) (w := w) (base := base) T
  have G8 := ok_tell_kind_name (P := P) (w := w) (base := base) T
  have G9 := ok_tell_status (P := P) (w := w) (base := base) T
  have GN := ok_answer_names (P := P) (w := w) (base := base) T
  refine T.h_answer_question.F.ok sc_answer_question (fun vs H Q E h => ?_) (fun cdv A outer s0 H vs Q E hr h => ?_)
  · obtain ⟨L, s, st, qq, r, dx, a, ns, i, j, c, p, rfl, _⟩ := h
    rfl
  · obtain ⟨L, s, st, qq, r, dx, a, ns, i, j, c, p, rfl, X, S, hne, hp, hp6, hP, hA, k⟩ := h
    obtain ⟨k7, c7⟩ := T.c_GENUS_OF
    obtain ⟨k8, c8⟩ := T.c_NAME
    obtain ⟨k9, c9⟩ := T.c_STATUS
    obtain ⟨k10, c10⟩ := T.c_NAMES
    refine ⟨_, pss_cons (ps_if (pt_cmpR op_eq (pv 2) (pe_glob rfl c7 (v := .int 7) ⟨k7, rfl⟩) (nomark _)) (pss_one (ps_ret (pe_call G7 (hr.mono (by decide)) rfl T.h_tell_group_name.m T.h_tell_group_name.F.kp T.h_tell_group_name.b .nil pass0 (pa_cons (pv 1) (pa_cons (pe_meth0 (pv 3) T.cl_Reader T.h_Reader_take_number.m GT (hr.mono (by decide)) T.h_Reader_take_number.b .nil pass0) pa_nil))))) pss_nil)
      (pss_cons (ps_if (pt_cmpR op_eq (pv 2) (pe_glob rfl c8 (v := .int 8) ⟨k8, rfl⟩) (nomark _)) (pss_one (ps_ret (pe_call G8 (hr.mono (by decide)) rfl T.h_tell_kind_name.m T.h_tell_kind_name.F.kp T.h_tell_kind_name.b .nil pass0 (pa_cons (pv 0) (pa_cons (pv 1) (pa_cons (pe_meth0 (pv 3) T.cl_Reader T.h_Reader_take_number.m GT (hr.mono (by decide)) T.h_Reader_take_number.b .nil pass0) pa_nil)))))) pss_nil)
      (pss_cons (ps_if (pt_cmpR op_eq (pv 2) (pe_glob rfl c9 (v := .int 9) ⟨k9, rfl⟩) (nomark _)) (pss_one (ps_ret (pe_call G9 (hr.mono (by decide)) rfl T.h_tell_status.m T.h_tell_status.F.kp T.h_tell_status.b .nil pass0 (pa_cons (pv 1) (pa_cons (pe_meth0 (pv 3) T.cl_Reader T.h_Reader_take_number.m GT (hr.mono (by decide)) T.h_Reader_take_number.b .nil pass0) pa_nil))))) pss_nil)
      (pss_cons (ps_if (pt_cmpR op_eq (pv 2) (pe_glob rfl c10 (v := .int 10) ⟨k10, rfl⟩) (nomark _)) (pss_one (ps_ret (pe_call GN hr rfl T.h_answer_names.m T.h_answer_names.F.kp T.h_answer_names.b .nil pass0 (pa_cons (pv 1) (pa_cons (pv 3) pa_nil))))) pss_nil)
      (pss_one ps_dead)))), ?_⟩
    have X1 := X.take (i + 2)
    have S1 := S.keep X.R hne (keep_upd (o := .ins t.C_Reader dx (rdF a (i + 2))))
    cases hP with
    | begin_ h0 => obtain rfl : (0 : Int) = p := Option.some.inj (h0.symm.trans hp); exact absurd (by decide) hp6
    | @genus d n h0 h1 h2 h3 => obtain rfl : (1 : Int) = p := Option.some.inj (h0.symm.trans hp); exact absurd (by decide) hp6
    | @species g d ty n h0 h1 h2 h3 h4 h5 => obtain rfl : (2 : Int) = p := Option.some.inj (h0.symm.trans hp); exact absurd (by decide) hp6
    | @rule_ x y z h0 h1 h2 h3 => obtain rfl : (4 : Int) = p := Option.some.inj (h0.symm.trans hp); exact absurd (by decide) hp6
    | @three p' x y h0 h1 h2 h3 =>
      obtain rfl : p' = p := Option.some.inj (h0.symm.trans hp)
      rcases h1 with rfl | rfl | rfl | rfl
      · exact absurd (by decide) hp6
      · exact absurd (by decide) hp6
      · exact absurd (by decide) hp6
      · have hA : (Kct4Neutral.natural x 32 && Kct4Neutral.natural y 32) = true := hA
        rw [Bool.and_eq_true] at hA
        obtain ⟨x, rfl⟩ := nat_of (asked_nat hA.1)
        obtain ⟨y, rfl⟩ := nat_of (asked_nat hA.2)
        refine ⟨_, rfl, rfl, _, rfl, ifNe (by decide) ⟨_, rfl, rfl, _, rfl, ifNe (by decide) ⟨_, rfl, rfl, _, rfl, ifNe (by decide) ⟨_, rfl, rfl, _, rfl, ifEq rfl ?_⟩⟩⟩⟩
        exact ⟨_, rfl, _, rfl, L, s, st, qq, r, dx, a, ns, i, x, y, rfl, X, S, hne, h2, h3, k⟩
    | @two p' x h0 h1 h2 =>
      obtain rfl : p' = p := Option.some.inj (h0.symm.trans hp)
      rcases h1 with rfl | rfl | rfl
      · have hA : Kct4Neutral.natural x 32 = true := hA
        obtain ⟨x, rfl⟩ := nat_of (asked_nat hA)
        refine ⟨_, rfl, rfl, _, rfl, ifEq rfl ?_⟩
        exact ⟨_, rfl, _, rfl, r, dx, _, rfl, X.R, rfl, r, dx, a, ns, i + 1, _, rfl, X.R, X.A.sq, h2, st, qq, s, x, rfl, S1, contAsk X.R k rfl⟩
      · have hA : Kct4Neutral.natural x 32 = true := hA
        obtain ⟨x, rfl⟩ := nat_of (asked_nat hA)
        refine ⟨_, rfl, rfl, _, rfl, ifNe (by decide) ⟨_, rfl, rfl, _, rfl, ifEq rfl ?_⟩⟩
        exact ⟨_, rfl, _, rfl, _, rfl, r, dx, _, rfl, X.R, rfl, r, dx, a, ns, i + 1, _, rfl, X.R, X.A.sq, h2, L, st, qq, s, x, rfl, X1.B, X1.W, S1, contAsk X.R k rfl⟩
      · have hA : Kct4Neutral.natural x 32 = true := hA
        obtain ⟨x, rfl⟩ := nat_of (asked_nat hA)
        refine ⟨_, rfl, rfl, _, rfl, ifNe (by decide) ⟨_, rfl, rfl, _, rfl, ifNe (by decide) ⟨_, rfl, rfl, _, rfl, ifEq rfl ?_⟩⟩⟩
        exact ⟨_, rfl, _, rfl, r, dx, _, rfl, X.R, rfl, r, dx, a, ns, i + 1, _, rfl, X.R, X.A.sq, h2, st, qq, s, x, rfl, S1, contAsk X.R k rfl⟩
end
end Ns
end
section
set_option Elab.async false
set_option linter.all false
set_option maxRecDepth 100000
set_option maxHeartbeats 4000000
namespace Ns
open PySem PySem.Spec PyProof.Rows L2
open PySem.W (Codec)
open Kct4 (Abs Genus Species Ruled Call)
theorem Parsed.head {ns : List Int} {i j : Nat} {c : List (List Int)} (h : Parsed ns i c j) : ∃ p, ns[i]? = some p := by
  cases h with
  | begin_ h => exact ⟨_, h⟩
  | genus h => exact ⟨_, h⟩
  | species h => exact ⟨_, h⟩
  | three h => exact ⟨_, h⟩
  | rule_ h => exact ⟨_, h⟩
  | two h => exact ⟨_, h⟩
theorem Parsed.asks {ns : List Int} {i j : Nat} {c : List (List Int)} {p : Int} {s : Abs} (h : Parsed ns i c j) (hp : ns[i]? = some p) (h6 : ¬ p ≤ 6) : (Kct4Neutral.step s c).1 = s := by
  cases h with
  | begin_ h => rw [h] at hp; cases hp; exact absurd (by decide) h6
  | genus h => rw [h] at hp; cases hp; exact absurd (by decide) h6
  | species h => rw [h] at hp; cases hp; exact absurd (by decide) h6
  | rule_ h => rw [h] at hp; cases hp; exact absurd (by decide) h6
  | @three p' x y h h1 _ _ =>
    rw [h] at hp
    cases hp
    rcases h1 with rfl | rfl | rfl | rfl
    · exact absurd (by decide) h6
    · exact absurd (by decide) h6
    · exact absurd (by decide) h6
    · show (Kct4.step s (.names x.toNat y.toNat)).1 = s
      rw [step_nm]
      split
      · rfl
      · split <;> rfl
  | @two p' x h h1 _ =>
    rw [h] at hp
    cases hp
    rcases h1 with rfl | rfl | rfl
    · show (Kct4.step s (.genusName x.toNat)).1 = s
      rw [step_gn]
      split
      · rfl
      · split <;> rfl
    · show (Kct4.step s (.name x.toNat)).1 = s
      rw [step_na]
      split
      · rfl
      · split <;> rfl
    · show (Kct4.step s (.status x.toNat)).1 = s
      rw [step_st]
      split <;> rfl
theorem tab_keep {t : Adr} {H H' : Hp} {L : BL} {s : Abs} {r C dx a : Addr} {i : Nat} (B : BookAt t H L s) (T : Tab t H) (hr : H r = some (.ins C dx (rdF a i))) (k : ∀ b o, H b = some o → ¬ L.In b → b ≠ r → H' b = some o) : Tab t H' := by
  obtain ⟨ps, h1, h2⟩ := T
  refine ⟨ps, k _ _ h1 (B.notT h1) (ne_of h1 hr (by intro z; cases z)), ?_⟩
  rcases h2 with h2 | ⟨c, h2, h3⟩
  · exact .inl h2
  · exact .inr ⟨c, h2, k _ _ h3 (B.notX h3) (ne_of h3 hr (by intro z; cases z))⟩
def StOk (t : Adr) (H : Hp) (s : Abs) (r q : Addr) (v : Option V) : Prop := v = some .non ∨ ∃ st, v = some (.ref st) ∧ StandAt t H st s q ∧ st ≠ r
def AnI (t : Adr) (K : PySem.W.Frag) (ns : List Int) (a r dr q : Addr) (i : Nat) (cs : List (List (List Int))) (σ : L2.St) (H : Hp) : Prop := ∃ (s : Abs) (L : BL) (out : List Int) (vst v5 v6 : Option V), σ = [some (.ref a), some (.ref L.b), vst, some (.ref r), some (.ref q), v5, v6] ∧
  Rest ns i cs ∧ BookAt t H L s ∧ Wf s ∧ H r = some (.ins t.C_Reader dr (rdF a i)) ∧ ArgL K H a ns ∧ H q = some (.lst (out.map V.int)) ∧ ¬ L.In q ∧ Tab t H ∧ StOk t H s r q vst ∧ out ++ PyFlat.told (PyFlat.played Kct4Neutral.step s cs) = PyKct4.answers ns ∧ ∀ c ∈ cs, Kct4Neutral.asked1 c = true
def spAns (t : Adr) (K : PySem.W.Frag) : Sp := fun vs H Q _ => ∃ (a : Addr) (ns : List Int), vs = [.ref a] ∧ ArgL K H a ns ∧ ns.length ≤ 30000 ∧ PyKct4.answers_asked ns = true ∧ Tab t H ∧ ∀ (H1 : Hp) (p : Addr), H1 p = some (.lst ((PyKct4.answers ns).map V.int)) → Q (.ref p) H1
section
variable {P : Program} {w : World} {K : PySem.W.Frag} {mg : Str → Option Value} {base : Heap} {t : Adr}
theorem ok_answers (T : Txt K mg t) (hB : BaseB mg base) : FnOk P w K mg base CX0 12 t.f_answers t.d_answers ["calls"] (spAns t K) := by
  have GB := ok_Book_init (P := P) (w := w) (base := base) T
  have GR := ok_Reader_init (P := P) (w := w) (base := base) T
  have GD := ok_Reader_is_done (P := P) (w := w) (base := base) T
  have GN := ok_Reader_take_number (P := P) (w := w) (base := base) T
  have GT := ok_answer_telling (P := P) (w := w) (base := base) T
  have GQ := ok_answer_question (P := P) (w := w) (base := base) T
  have GS := ok_Standing_init (P := P) (w := w) T hB
  refine T.h_answers.F.ok sc_answers (fun vs H Q E h => ?_) (fun cdv A outer s0 H vs Q E hr h => ?_)
  · obtain ⟨a, ns, rfl, _⟩ := h
    rfl
  · obtain ⟨a, ns, rfl, hA, hlen, hask, hT, k⟩ := h
    obtain ⟨k6, c6⟩ := T.c_GROUP
    have nd := sc_answers.nd
    refine ⟨_, pss_cons (ps_set (i := 1) nd rfl (Or.inl rfl) (pe_make0 T.mk_Book GB (hr.mono (by decide)) rfl T.mg_Book T.h_Book_init.b .nil pass0))
      (pss_cons (ps_set (i := 2) nd rfl (Or.inl rfl) pe_non)
      (pss_cons (ps_set (i := 3) nd rfl (Or.inl rfl) (pe_make T.mk_Reader GR (hr.mono (by decide)) rfl T.mg_Reader T.h_Reader_init.b .nil pass0 (pa_cons (pv 0) pa_nil)))
      (pss_cons (ps_set (i := 4) nd rfl (Or.inl rfl) (pe_lst pa_nil))
      (pss_cons (ps_while PassesOwn.never (pt_not (pt_val (pe_meth0 (pv 3) T.cl_Reader T.h_Reader_is_done.m GD (hr.mono (by decide)) T.h_Reader_is_done.b .nil pass0)))
        (pss_cons (ps_set (i := 5) nd rfl (Or.inl rfl) (pe_meth0 (pv 3) T.cl_Reader T.h_Reader_take_number.m GN (hr.mono (by decide)) T.h_Reader_take_number.b .nil pass0))
        (pss_cons (ps_if (pt_cmpR op_le (pv 5) (pe_glob rfl c6 (v := .int 6) ⟨k6, rfl⟩) (nomark _))
          (pss_cons (ps_set (i := 6) nd rfl (Or.inl rfl) (pe_lst (pa_cons (pe_call GT (hr.mono (by decide)) rfl T.h_answer_telling.m T.h_answer_telling.F.kp T.h_answer_telling.b .nil pass0 (pa_cons (pv 1) (pa_cons (pv 5) (pa_cons (pv 3) pa_nil)))) pa_nil)))
            (pss_one (ps_set (i := 2) nd rfl (Or.inl rfl) pe_non)))
          (pss_cons (ps_if (pt_cmpR op_isN (pv 2) pe_non (nomark _)) (pss_one (ps_set (i := 2) nd rfl (Or.inl rfl) (pe_make T.mk_Standing GS hr rfl T.mg_Standing T.h_Standing_init.b .nil pass0 (pa_cons (pv 1) pa_nil)))) pss_nil)
            (pss_one (ps_set (i := 6) nd rfl (Or.inl rfl) (pe_call GQ (hr.mono (by decide)) rfl T.h_answer_question.m T.h_answer_question.F.kp T.h_answer_question.b .nil pass0 (pa_cons (pv 1) (pa_cons (pv 2) (pa_cons (pv 5) (pa_cons (pv 3) pa_nil)))))))))
        (pss_cons (ps_expr (pe_bm PySem.F.plainAttrs_list PySem.F.slot_list_append PySem.F.type_list_append mt_append (pv 4) (pa_cons (pe_callB call_len_seq rfl T.b_len PySem.boot_len (pa_cons (pv 6) pa_nil)) pa_nil)))
        (pss_one (ps_expr (pe_bm PySem.F.plainAttrs_list PySem.F.slot_list_extend PySem.F.type_list_extend mt_extend (pv 4) (pa_cons (pv 6) pa_nil)))))))
      ) (pss_one (ps_ret (pv 4))))))), ?_⟩
    obtain ⟨cs0, hR0, hans, hask1, hal⟩ := asked_open hask
    intro b db nb ndb nbd
    refine ⟨b, db, rfl, upd_same, fun L0 H1 B0 eb n0 k0 => ⟨rfl, ?_⟩⟩
    have s01 : Same H H1 := Same.made nb ndb k0
    have A1 : ArgL K H1 a ns := hA.stay fun o u e => s01 _ _ e
    have T1 : Tab t H1 := TabOk.keep hT s01
    subst eb
    refine ⟨_, rfl, ?_⟩
    intro r dr nr ndr nrd
    refine ⟨r, dr, a, rfl, upd_same, ⟨rfl, ?_⟩⟩
    have s12 : Same H1 (upd (upd (upd H1 dr (.own r)) r (.ins t.C_Reader dr [])) r (.ins t.C_Reader dr (rdF a 0))) := fun p o e => by
      rw [upd_ne (ne_of_none e nr), upd_ne (ne_of_none e nr), upd_ne (ne_of_none e ndr)]
      exact e
    refine ⟨Nat.zero_le _, fun q hq => ?_⟩
    have hrq : r ≠ q := ne_of_none upd_same hq
    have s23 := Same.new0 (o := .lst []) hq
    generalize eH2 : (upd (upd (upd H1 dr (.own r)) r (.ins t.C_Reader dr [])) r (.ins t.C_Reader dr (rdF a 0))) = H2 at *
    have hr2 : H2 r = some (.ins t.C_Reader dr (rdF a 0)) := by rw [← eH2]; exact upd_same
    have B3 : BookAt t (upd H2 q (.lst [])) L0 Kct4.first := (B0.same s12).same s23
    have nq : ¬ L0.In q := fun z => by
      obtain ⟨o, e⟩ := (B0.same s12).there z
      rw [hq] at e
      cases e
    refine ⟨fun m σ H' => ∃ (i : Nat) (cs : List (List (List Int))), m = ns.length - i ∧ i ≤ ns.length ∧ AnI t K ns a r dr q i cs σ H',
      ⟨ns.length, 0, cs0, rfl, Nat.zero_le _, Kct4.first, L0, [], some .non, none, none, rfl, hR0, B3, Wf.first, (upd_ne hrq).trans hr2, A1.stay (fun o u e => s23 _ _ (s12 _ _ e)), upd_same, nq, TabOk.keep T1 (s12.trans s23), .inl rfl, hans.symm, hask1⟩, ?_⟩
    rintro m σ H' ⟨i, cs, rfl, hi, s, L, out, vst, v5, v6, rfl, hR, B, W, hr', hA', hq', nq', T', hSt, hout, hall⟩
    refine ⟨_, rfl, r, dr, _, rfl, hr', rfl, r, dr, a, ns, i, rfl, hr', hA'.sq, _, rfl, ?_⟩
    have hol : out.length ≤ 1100000 := by
      have := congrArg List.length hout
      rw [List.length_append] at this
      omega
    by_cases hd : ns.length ≤ i
    · -- done
      rw [decide_eq_true hd]
      refine iteF ?_
      have ec := hR.done hd
      subst ec
      have e1 : out = PyKct4.answers ns := by
        rw [← hout]
        show out = out ++ []
        rw [List.append_nil]
      refine ⟨_, rfl, ?_⟩
      rw [e1] at hq'
      exact k H' q hq'
    · rw [decide_eq_false hd]
      refine iteT ?_
      obtain ⟨c, cs', j, rfl, hp, hR'⟩ := hR.next (Nat.lt_of_not_le hd)
      have hij := hp.lt
      have hjl := hp.le
      obtain ⟨p0, hp0⟩ := hp.head
      refine ⟨AnI t K ns a r dr q j cs', fun σ' H'' h => ⟨ns.length - j, by omega, j, cs', rfl, hjl, h⟩, ?_⟩
      have X0 : At t K H' L s r dr a ns i := ⟨B, W, hr', hA'⟩
      have X1 := X0.take (i + 1)
      refine ⟨_, rfl, r, dr, _, rfl, hr', rfl, r, dr, a, ns, i, _, rfl, hr', hA'.sq, hp0, ?_⟩
      have nqr : q ≠ r := ne_of hq' hr' (by intro z; cases z)
      have hq1 : upd H' r (.ins t.C_Reader dr (rdF a (i + 1))) q = some (.lst (out.map V.int)) := (upd_ne nqr).trans hq'
      have T1' : Tab t (upd H' r (.ins t.C_Reader dr (rdF a (i + 1)))) := TabOk.upd T' hr' (fun _ z => nomatch z) (fun _ z => nomatch z)
      have hSt1 : StOk t (upd H' r (.ins t.C_Reader dr (rdF a (i + 1)))) s r q vst := by
        rcases hSt with z | ⟨st, z, S, ne⟩
        · exact .inl z
        · exact .inr ⟨st, z, S.keep hr' ne keep_upd, ne⟩
      generalize upd H' r (.ins t.C_Reader dr (rdF a (i + 1))) = H1' at *
      have hfull : (out ++ ((((Kct4Neutral.step s c).2.length : Nat) : Int) :: (Kct4Neutral.step s c).2)) ++ PyFlat.told (PyFlat.played Kct4Neutral.step (Kct4Neutral.step s c).1 cs') = PyKct4.answers ns := by
        rw [← hout, List.append_assoc]
        rfl
      have hsz : out.length + 1 + (Kct4Neutral.step s c).2.length ≤ 1100000 := by
        have := congrArg List.length hfull
        rw [List.length_append, List.length_append, List.length_cons] at this
        omega
      refine ⟨_, rfl, _, _, rfl, rfl, _, rfl, ?_⟩
      by_cases h6 : p0 ≤ 6
      · rw [decide_eq_true h6]
        refine iteT ?_
        refine ⟨_, rfl, _, rfl, _, rfl, L, s, r, dr, a, ns, i, j, c, p0, rfl, X1, hlen, hp0, h6, hp, hall c List.mem_cons_self, fun H3 L3 v ev B3' eb3 hr3 new3 keep3 dom3 => ?_⟩
        refine ⟨(by show 1 ≤ sizeLine; decide), fun p np => ?_⟩
        have hq3 := keep3 q _ hq1 nq' nqr
        have nq3 : ¬ L3.In q := fun z => by
          rcases new3 q z with z | z
          · exact nq' z
          · rw [hq1] at z; cases z
        have T3 : Tab t H3 := tab_keep X1.B T1' X1.R keep3
        have A3 : ArgL K H3 a ns := X1.A.stay fun o u e => keep3 a _ e (X1.B.notF e) (fun z => by rw [z, X1.R] at e; cases e)
        have sm4 := Same.new0 (o := .lst [.int v]) np
        have hp4 : upd H3 p (.lst [.int v]) p = some (.lst ((Kct4Neutral.step s c).2.map V.int)) := by rw [ev]; exact upd_same
        have nqp : q ≠ p := ne_of_none hq3 np
        have hq4 := sm4 _ _ hq3
        have B4 := B3'.same sm4
        have hr4 := sm4 _ _ hr3
        have A4 : ArgL K (upd H3 p (.lst [.int v])) a ns := A3.stay fun o u e => sm4 _ _ e
        have T4 : Tab t (upd H3 p (.lst [.int v])) := TabOk.keep T3 sm4
        have St4 : StOk t (upd H3 p (.lst [.int v])) (Kct4Neutral.step s c).1 r q (some .non) := .inl rfl
        generalize upd H3 p (.lst [.int v]) = H4 at *
        refine ⟨_, rfl, .inl ⟨rfl, _, SqL.of hq4⟩, _, rfl, p, _, rfl, .inl (SqL.of hp4), q, _, _, rfl, rfl, hq4, ?_, ?_⟩
        · rw [List.length_map]
          exact Nat.lt_of_le_of_lt hol (by decide)
        have hp5 : upd H4 q (.lst (out.map V.int ++ [V.int (((Kct4Neutral.step s c).2.map V.int).length : Int)])) p = some (.lst ((Kct4Neutral.step s c).2.map V.int)) := (upd_ne (Ne.symm nqp)).trans hp4
        refine ⟨_, rfl, .inl ⟨rfl, _, SqL.of upd_same⟩, _, rfl, q, p, _, _, rfl, rfl, upd_same, hp5, ?_, ?_⟩
        · rw [List.length_append, List.length_map, List.length_map, List.length_singleton]
          exact Nat.le_trans (m := 1100000) hsz (by decide)
        · rw [upd_upd]
          refine ⟨(Kct4Neutral.step s c).1, L3, out ++ ((((Kct4Neutral.step s c).2.length : Nat) : Int) :: (Kct4Neutral.step s c).2), _, _, _, by rw [eb3]; rfl, hR', ?_, W.step _, ?_, ?_, ?_, nq3, ?_, ?_, hfull, fun c' hc' => hall c' (List.mem_cons_of_mem _ hc')⟩
          · exact B4.stay fun p' o hin e => by rw [upd_ne (show p' ≠ q from fun z => nq3 (by rw [← z]; exact hin))]; exact e
          · rw [upd_ne (Ne.symm nqr)]; exact hr4
          · refine A4.stay fun o u e => ?_
            rw [upd_ne (fun z => by rw [z, hq4] at e; cases e)]
            exact e
          · rw [upd_same, List.map_append, List.length_map, List.map_cons, List.append_assoc]
            rfl
          · exact TabOk.upd T4 hq4 (fun _ z => nomatch z) (fun _ z => nomatch z)
          · rcases St4 with z | ⟨st', z, S', ne'⟩
            · exact .inl z
            · exact .inr ⟨st', z, S'.upd hq4, ne'⟩
      · rw [decide_eq_false h6]
        refine iteF ?_
        rcases hSt1 with rfl | ⟨st, rfl, S2, ne2⟩
        · -- standing = Standing(book)
          refine ⟨_, rfl, rfl, _, rfl, iteT ?_⟩
          refine ⟨_, rfl, fun st ds nst nds _ => ?_⟩
          have smS : Same H1' (upd (upd H1' ds (.own st)) st (.ins t.C_Standing ds [])) := fun b o e => by
            rw [upd_ne (ne_of_none e nst), upd_ne (ne_of_none e nds)]
            exact e
          refine ⟨st, ds, q, _, L, s, rfl, upd_same, smS _ _ hq1, X1.B.same smS, W, TabOk.keep T1' smS, fun H2 S2 T2 kp2 => ⟨rfl, ?_⟩⟩
          obtain ⟨Pq, hPq, _⟩ := id T1'
          have keep2 : ∀ b o, H1' b = some o → b ≠ t.P_bp → H2 b = some o := fun b o e ne => kp2 b o (smS b o e) (ne_of_none e nst) ne
          have X2 : At t K H2 L s r dr a ns (i + 1) := ⟨X1.B.stay fun b o hin e => keep2 b o e fun z => X1.B.notT hPq (z ▸ hin), W, keep2 _ _ X1.R (ne_of X1.R hPq (by intro z; cases z)), X1.A.stay fun o u e => keep2 _ _ e (ne_of e hPq (by intro z; cases z))⟩
          have hq2 := keep2 _ _ hq1 (ne_of hq1 hPq (by intro z; cases z))
          have ne2 : st ≠ r := (ne_of_none X1.R nst).symm
          have es := hp.asks (s := s) hp0 h6
          refine ⟨_, rfl, _, rfl, _, rfl, _, rfl, L, s, st, q, r, dr, a, ns, i, j, c, p0, rfl, X2, S2, ne2, hp0, h6, hp, hall c List.mem_cons_self, fun p H4 np hp4 hr4 keep4 => ?_⟩
          have hq4 := keep4 q _ hq2 nqr
          have nqp : q ≠ p := ne_of_none hq2 np
          have B4 : BookAt t H4 L (Kct4Neutral.step s c).1 := by rw [es]; exact X2.B.rd X2.R keep4
          have A4 : ArgL K H4 a ns := X2.A.rd X2.R keep4
          have T4 : Tab t H4 := TabOk.keepI T2 X2.R keep4
          have St4 : StOk t H4 (Kct4Neutral.step s c).1 r q (some (.ref st)) := .inr ⟨st, rfl, by rw [es]; exact S2.keep X2.R ne2 keep4, ne2⟩
          have eb3 : L.b = L.b := rfl
          have nq3 := nq'
          refine ⟨_, rfl, .inl ⟨rfl, _, SqL.of hq4⟩, _, rfl, p, _, rfl, .inl (SqL.of hp4), q, _, _, rfl, rfl, hq4, ?_, ?_⟩
          · rw [List.length_map]
            exact Nat.lt_of_le_of_lt hol (by decide)
          have hp5 : upd H4 q (.lst (out.map V.int ++ [V.int (((Kct4Neutral.step s c).2.map V.int).length : Int)])) p = some (.lst ((Kct4Neutral.step s c).2.map V.int)) := (upd_ne (Ne.symm nqp)).trans hp4
          refine ⟨_, rfl, .inl ⟨rfl, _, SqL.of upd_same⟩, _, rfl, q, p, _, _, rfl, rfl, upd_same, hp5, ?_, ?_⟩
          · rw [List.length_append, List.length_map, List.length_map, List.length_singleton]
            exact Nat.le_trans (m := 1100000) hsz (by decide)
          · rw [upd_upd]
            refine ⟨(Kct4Neutral.step s c).1, L, out ++ ((((Kct4Neutral.step s c).2.length : Nat) : Int) :: (Kct4Neutral.step s c).2), _, _, _, by rw [eb3]; rfl, hR', ?_, W.step _, ?_, ?_, ?_, nq3, ?_, ?_, hfull, fun c' hc' => hall c' (List.mem_cons_of_mem _ hc')⟩
            · exact B4.stay fun p' o hin e => by rw [upd_ne (show p' ≠ q from fun z => nq3 (by rw [← z]; exact hin))]; exact e
            · rw [upd_ne (Ne.symm nqr)]; exact hr4
            · refine A4.stay fun o u e => ?_
              rw [upd_ne (fun z => by rw [z, hq4] at e; cases e)]
              exact e
            · rw [upd_same, List.map_append, List.length_map, List.map_cons, List.append_assoc]
              rfl
            · exact TabOk.upd T4 hq4 (fun _ z => nomatch z) (fun _ z => nomatch z)
            · rcases St4 with z | ⟨st', z, S', ne'⟩
              · exact .inl z
              · exact .inr ⟨st', z, S'.upd hq4, ne'⟩
        · refine ⟨_, rfl, rfl, _, rfl, iteF ?_⟩
          have X2 := X1
          have hq2 := hq1
          have T2 := T1'
          have es := hp.asks (s := s) hp0 h6
          refine ⟨_, rfl, _, rfl, _, rfl, _, rfl, L, s, st, q, r, dr, a, ns, i, j, c, p0, rfl, X2, S2, ne2, hp0, h6, hp, hall c List.mem_cons_self, fun p H4 np hp4 hr4 keep4 => ?_⟩
          have hq4 := keep4 q _ hq2 nqr
          have nqp : q ≠ p := ne_of_none hq2 np
          have B4 : BookAt t H4 L (Kct4Neutral.step s c).1 := by rw [es]; exact X2.B.rd X2.R keep4
          have A4 : ArgL K H4 a ns := X2.A.rd X2.R keep4
          have T4 : Tab t H4 := TabOk.keepI T2 X2.R keep4
          have St4 : StOk t H4 (Kct4Neutral.step s c).1 r q (some (.ref st)) := .inr ⟨st, rfl, by rw [es]; exact S2.keep X2.R ne2 keep4, ne2⟩
          have eb3 : L.b = L.b := rfl
          have nq3 := nq'
          refine ⟨_, rfl, .inl ⟨rfl, _, SqL.of hq4⟩, _, rfl, p, _, rfl, .inl (SqL.of hp4), q, _, _, rfl, rfl, hq4, ?_, ?_⟩
          · rw [List.length_map]
            exact Nat.lt_of_le_of_lt hol (by decide)
          have hp5 : upd H4 q (.lst (out.map V.int ++ [V.int (((Kct4Neutral.step s c).2.map V.int).length : Int)])) p = some (.lst ((Kct4Neutral.step s c).2.map V.int)) := (upd_ne (Ne.symm nqp)).trans hp4
          refine ⟨_, rfl, .inl ⟨rfl, _, SqL.of upd_same⟩, _, rfl, q, p, _, _, rfl, rfl, upd_same, hp5, ?_, ?_⟩
          · rw [List.length_append, List.length_map, List.length_map, List.length_singleton]
            exact Nat.le_trans (m := 1100000) hsz (by decide)
          · rw [upd_upd]
            refine ⟨(Kct4Neutral.step s c).1, L, out ++ ((((Kct4Neutral.step s c).2.length : Nat) : Int) :: (Kct4Neutral.step s c).2), _, _, _, by rw [eb3]; rfl, hR', ?_, W.step _, ?_, ?_, ?_, nq3, ?_, ?_, hfull, fun c' hc' => hall c' (List.mem_cons_of_mem _ hc')⟩
            · exact B4.stay fun p' o hin e => by rw [upd_ne (show p' ≠ q from fun z => nq3 (by rw [← z]; exact hin))]; exact e
            · rw [upd_ne (Ne.symm nqr)]; exact hr4
            · refine A4.stay fun o u e => ?_
              rw [upd_ne (fun z => by rw [z, hq4] at e; cases e)]
              exact e
            · rw [upd_same, List.map_append, List.length_map, List.map_cons, List.append_assoc]
              rfl
            · exact TabOk.upd T4 hq4 (fun _ z => nomatch z) (fun _ z => nomatch z)
            · rcases St4 with z | ⟨st', z, S', ne'⟩
              · exact .inl z
              · exact .inr ⟨st', z, S'.upd hq4, ne'⟩
end
end Ns
end
section
set_option Elab.async false
set_option linter.all false
set_option maxRecDepth 100000
set_option maxHeartbeats 4000000
namespace Ns
open PySem PySem.Spec PyProof.Rows L2
open PySem.W (WData Codec OpenSpec Well WellAll ReadsW ReadsAllW)
theorem spec_callT {P : Program} {w : World} {K : PySem.W.Frag} {mg mb : Str → Option Value} {k : Nat} {fa : Addr} {fd : FuncData} {ps : List Str} {sp : Sp} {s₁ : Shared} {vals : List Value} {ds : List WData} {R : PySem.W.WRecords} {cl : Str → Option Addr} {d0 : WData} {Pt : Addr}
    (KX : K.In s₁.heap) (hns : s₁.heap.Ns mainGlobals mg) (hb : s₁.heap.Ns builtinsNs mb) (hbb : ∀ x : Str, x ≠ "__name__" → mb x = bootBuiltins x) (hlim : s₁.heap.NoLimit) (hg : s₁.gens = #[])
    (hBB : BaseB mg s₁.heap) (hPt : s₁.heap.get? Pt = some (PySem.W.tabObj #[])) (hKP : K.lookup Pt = none) (hIs : isCodeTable s₁.heap Pt)
    (hwl : WellAll w.params s₁.heap vals ds) (hpl : plWs ds = true) (hwt : ∀ d ∈ ds, d.weight ≤ 1048576) (hr : Room k callerA)
    (F : ∀ base : Heap, K.In base → base.Ns mainGlobals mg → BaseB mg base → FnOk P w K mg base CX0 k fa fd ps sp) (hbind : ∀ (s : Shared) (us : List Value), us.length = ps.length → BindsTo s fd ⟨us, []⟩ (ps.zip us)) (hlen : ds.length = ps.length)
    (hsp : ∀ (H : Hp) (xs : List V), OnlyF H → H Pt = none → DwAll K H xs ds → sp xs (upd H Pt (.tbl #[])) (fun v H' => Dw K H' v d0) fun _ _ _ => False) :
    codeAny (model P w) callerA (.call (.ref fa) ⟨vals, []⟩) (fun r s' => ∃ u as, r = .ok (.ret u) ∧ ReadsW R cl s'.heap u d0 as ∧ OldK s₁.heap s'.heap ∧ s'.os = s₁.os ∧ AllBare s'.gens) s₁ := by
  obtain ⟨A, ho, ar⟩ := area_all ds vals hwl hpl hwt
  have hO : OnlyF (argH K s₁.heap A) := argH_only ar
  have hok0 : HOk P w (argH K s₁.heap A) s₁.heap := argH_ok ar
  have hS := dw_all KX ar ds vals hwl hpl ho
  have hV := vals_toV ho
  have hK0 : ∀ b u, argH K s₁.heap A b = some u → K.lookup b = none := fun b u q => (argH_is ar q).1
  have sq : ∀ {b : Addr} {u : HO}, argH K s₁.heap A b = some u → ∃ o vs n, s₁.heap.get? b = some o ∧ o.data = .seq vs n := fun {b u} q => by
    obtain ⟨_, vs, _, _, ⟨e2, _⟩ | ⟨e2, _⟩⟩ := argH_is ar q
    · exact ⟨_, _, _, e2, rfl⟩
    · exact ⟨_, _, _, e2, rfl⟩
  have hnP : argH K s₁.heap A Pt = none := by
    cases q : argH K s₁.heap A Pt with
    | none => rfl
    | some u =>
      obtain ⟨o, vs, n, e, d⟩ := sq q
      rw [hPt] at e
      cases e
      cases d
  generalize argH K s₁.heap A = H0 at hO hok0 hS hK0 sq hnP
  have hok : HOk P w (upd H0 Pt (.tbl #[])) s₁.heap := fun b u e => by
    by_cases z : b = Pt
    · subst z
      rw [upd_same] at e
      cases e
      exact hPt
    · rw [upd_ne z] at e
      refine (hok0 b u e).stay (fun _ _ _ q => q) (fun c q => ?_) fun c xs q => ?_
      · rw [upd_ne (ne_of_none q hnP)]; exact q
      · rw [upd_ne (ne_of_none q hnP)]; exact q
  have trk : ∀ {b : Addr} {o : Obj}, s₁.heap.get? b = some o → (∀ vs n, o.data ≠ .seq vs n) → (∀ vs, o.data ≠ .fields vs) → upd H0 Pt (.tbl #[]) b = none := fun {b o} e h1 h2 => by
    by_cases z : b = Pt
    · subst z
      rw [hPt] at e
      cases e
      exact absurd rfl (h2 _)
    · rw [upd_ne z]
      cases q : H0 b with
      | none => rfl
      | some u =>
        obtain ⟨o', vs, n, e', d⟩ := sq q
        rw [e] at e'
        cases e'
        exact absurd d (h1 _ _)
  have nsK : ∀ {b : Addr} {m : Str → Option Value}, s₁.heap.Ns b m → (hidT s₁.heap (upd H0 Pt (.tbl #[]))).Ns b m := fun {b m} ⟨o, es, ep, e, d, r⟩ => ⟨o, es, ep, hidT_get e (trk e (fun _ _ z => by rw [d] at z; cases z) fun _ z => by rw [d] at z; cases z), d, r⟩
  have nK : ∀ b o, K.lookup b = some o → upd H0 Pt (.tbl #[]) b = none := fun b o e => by
    have z : b ≠ Pt := fun z => by rw [z, hKP] at e; cases e
    rw [upd_ne z]
    cases q : H0 b with
    | none => rfl
    | some u => rw [hK0 b u q] at e; cases e
  have hKb : K.In (hidT s₁.heap (upd H0 Pt (.tbl #[]))) := fun b o e => hidT_get (KX b o e) (nK b o e)
  have hBb : BaseB mg (hidT s₁.heap (upd H0 Pt (.tbl #[]))) := by
    obtain ⟨bm, ob, b1, b2, b3, b4, b5, b6⟩ := hBB
    exact ⟨bm, ob, b1, b2, hidT_get b3 (trk b3 (fun _ _ z => by rw [b6] at z; cases z) fun _ z => by rw [b6] at z; cases z), b4, b5, b6⟩
  have hM : Mod K mg (hidT s₁.heap (upd H0 Pt (.tbl #[]))) := ⟨hKb, nsK hns, ⟨mb, nsK hb, hbb⟩, let ⟨mc, h1, h2⟩ := hlim; ⟨mc, nsK h1, h2⟩⟩
  have e0 : Env0 P w K mg (hidT s₁.heap (upd H0 Pt (.tbl #[]))) callerA [] s₁ (upd H0 Pt (.tbl #[])) := ⟨rfl, hM, fun b o e => of_hidT e, Nat.le_of_eq (hidT_size _ _), trivial, fun b hb => absurd (show b ∈ ([] : List Addr) from hb) (by simp), hok, .of_eq hg⟩
  have hl : vals.length = ps.length := by rw [wellAll_len hwl]; exact hlen
  refine codeAny_mono ((F _ hKb (nsK hns) hBb).run callerA [] s₁ _ ⟨vals, []⟩ vals (vals.map toV) _ _ hr e0 (hbind s₁ vals hl) hV (hsp H0 _ hO hnP hS)) fun r s' x => ?_
  cases r with
  | error e => exact False.elim x
  | ok fl =>
    cases fl with
    | next => exact False.elim x
    | brk => exact False.elim x
    | cont => exact False.elim x
    | ret u =>
      obtain ⟨v, H', os, bare, un, hok', r', q⟩ := x
      have kept : ∀ b o, b ≠ Pt → s₁.heap.get? b = some o → s'.heap.get? b = some o := fun b o hne e => by
        cases q2 : upd H0 Pt (.tbl #[]) b with
        | none => exact un.keep b o e q2 (by intro z; exact absurd (show b ∈ ([] : List Addr) from z) (by simp)) (by simp)
        | some u2 =>
          rw [upd_ne hne] at q2
          rcases hO b with z | ⟨ob, u3, z⟩
          · rw [q2] at z
            cases z
          · have z2 := un.frzs b ob _ ((upd_ne hne).trans z)
            obtain ⟨e1, _⟩ := hok0 b _ z
            obtain ⟨e2, _⟩ := hok' b _ z2
            rw [e] at e1
            cases e1
            exact e2
      have KX' : K.In s'.heap := fun b o e => kept b o (fun z => by rw [z, hKP] at e; cases e) (KX b o e)
      obtain ⟨as, hrd⟩ := Dw.reads (R := R) (cl := cl) hok' KX' d0 v u q r'
      obtain ⟨more, hmore⟩ := un.tbls Pt #[] upd_same
      have hPt' : s'.heap.get? Pt = some (PySem.W.tabObj (#[] ++ more)) := (show ObjOk P w H' s'.heap Pt (.tbl (#[] ++ more)) from hok' Pt _ hmore)
      refine ⟨u, as, rfl, hrd, ⟨fun b o e => ?_, fun b o e => ?_⟩, os, bare⟩
      · by_cases z : b = Pt
        · subst z
          rw [hPt] at e
          cases e
          exact .inr (.inl ⟨hIs, rfl, #[], more, rfl, hPt'⟩)
        · exact .inl (kept b o z e)
      · by_cases z : b = Pt
        · rw [z]; exact ⟨_, hPt'⟩
        · exact ⟨o, kept b o z e⟩
theorem walk_specT {r : OpenSpec} {k : Nat} {q : Program} {loose : List Str} {XP : (Str → Option Value) → Heap → Prop} {YP : World → Heap → Prop} {d dd : DefRec} {K : Params → PySem.W.Frag} {ps : List Str} {nm : Str}
    (hwell : r.wellSaid = true) (hlen : r.args.length = ps.length) (hr : Room k callerA) (hrec : (recsOf q).find? (fun e => e.name == nm) = some dd)
    (hY : ∀ (w : World) (h : Heap), YP w h → (K w.params).In h)
    (F : ∀ (w : World) (mg : Str → Option Value) (fa : Addr) (h : Heap), YP w h → (K w.params).In h → h.Ns mainGlobals mg → mg d.name = some (.ref fa) →
      ∃ (c Pt : Addr) (fd : FuncData) (sp : Sp), PySem.W.tabIn (K w.params) nm = some (c, Pt) ∧ (K w.params).lookup Pt = none ∧ (∀ (s : Shared) (us : List Value), us.length = ps.length → BindsTo s fd ⟨us, []⟩ (ps.zip us)) ∧
        (∀ base : Heap, (K w.params).In base → base.Ns mainGlobals mg → BaseB mg base → FnOk r.prog w (K w.params) mg base CX0 k fa fd ps sp) ∧
        ∀ (H : Hp) (xs : List V) (a : Codec.denoteAll r.args), OnlyF H → H Pt = none → Codec.withinAll r.args a = true → Codec.app r.args r.asked a = true → DwAll (K w.params) H xs (Codec.encAll r.args a) →
          sp xs (upd H Pt (.tbl #[])) (fun v H' => Dw (K w.params) H' v (r.ret.enc (Codec.app r.args r.f a))) fun _ _ _ => False) :
    PySem.W.WalkOS q loose XP YP r d [] (fun f vs => PySem.call f vs) := by
  intro w s_0 s₁ mg mb G Y fa o pm cd doc dV kV ho hd hcd hD hmg hg args vals as hpre hlay hrd hwl hlo
  obtain ⟨a, e1, e2⟩ := PySem.W.os_pre_some hpre
  obtain ⟨e3, hwi⟩ := Codec.encAll_of_decAll r.args args a e1
  subst e3
  have KX := hY w _ Y
  obtain ⟨c, Pt, fd, sp, ht, hKP, hb, hF, hsp⟩ := F w mg fa _ Y KX G.T.g hmg
  obtain ⟨hcd', hPt⟩ := PySem.W.tab_of G.T KX hrec ht
  refine PySem.W.enter_call (codeAny_mono (spec_callT (R := []) (cl := classAt s_0.heap) (d0 := r.ret.enc (Codec.app r.args r.f a)) KX G.T.g G.T.b G.T.builtins G.T.nolimit hg G.T.bmain hPt hKP (hcd'.tab hPt).isCodeTable hwl (pl_encAll _ _) (layable_weight hlay) hr hF hb (by rw [encAll_len]; exact hlen)
    (fun H xs hO hn hS => hsp H xs a hO hn hwi e2 hS)) fun r' s' hq => ?_)
  obtain ⟨u, as', rfl, h1, h2, h3, h4⟩ := hq
  exact ⟨.inl ⟨u, _, as', rfl, fun _ => rfl, h1, (OpenSpec.post_iff hwell hwi _ _).mpr rfl, fun z => Bool.noConfusion (show false = true from z)⟩, h2, h3, h4⟩
end Ns
end
section
set_option Elab.async false
set_option linter.all false
set_option maxRecDepth 100000
set_option maxHeartbeats 4000000
namespace Ns
open PySem PySem.Spec PyProof.Rows L2
open PySem.W (WData Codec OpenSpec Well WellAll ReadsW ReadsAllW)
theorem walk_tail {w : World} {K : PySem.W.Frag} {mg : Str → Option Value} {fa : Addr} {t : Adr} (T : Txt K mg t) (hmg : mg "answers" = some (.ref fa)) :
    ∃ (c Pt : Addr) (fd : FuncData) (sp : Sp), PySem.W.tabIn K "by_priority" = some (c, Pt) ∧ K.lookup Pt = none ∧ (∀ (s : Shared) (us : List Value), us.length = (["calls"] : List Str).length → BindsTo s fd ⟨us, []⟩ ((["calls"] : List Str).zip us)) ∧
        (∀ base : Heap, K.In base → base.Ns mainGlobals mg → BaseB mg base → FnOk PySem.Challenge.rw_namestands_s01_answers.prog w K mg base CX0 12 fa fd ["calls"] sp) ∧
        ∀ (H : Hp) (xs : List V) (a : Codec.denoteAll PySem.Challenge.rw_namestands_s01_answers.args), OnlyF H → H Pt = none → Codec.withinAll PySem.Challenge.rw_namestands_s01_answers.args a = true → Codec.app PySem.Challenge.rw_namestands_s01_answers.args PySem.Challenge.rw_namestands_s01_answers.asked a = true → DwAll K H xs (Codec.encAll PySem.Challenge.rw_namestands_s01_answers.args a) →
          sp xs (upd H Pt (.tbl #[])) (fun v H' => Dw K H' v (PySem.Challenge.rw_namestands_s01_answers.ret.enc (Codec.app PySem.Challenge.rw_namestands_s01_answers.args PySem.Challenge.rw_namestands_s01_answers.f a))) fun _ _ _ => False := by
  have e0 := hmg.symm.trans T.h_answers.m
  cases e0
  refine ⟨t.c_bp, t.P_bp, t.d_answers, spAns t K, T.tab_bp, T.no_bp, ?_, fun base _ _ hB => ok_answers T hB, ?_⟩
  · obtain ⟨oc, od, kV, doc, pm, an, cdv, ct, osl, e, lk, hcd⟩ := T.h_answers.F.ex
    rw [e]
    exact fun s us hu => match us, hu with | [_], _ => .of_eq rfl
  · intro H xs a hO hn hwi hask hx
    cases hx with
    | cons h1 h2 =>
      cases h2
      cases h1 with
      | lst hs ha =>
        have e := L2.ints_dw a.1 _ ha
        subst e
        have q : ((Codec.inLen 0 30000 a.1 && a.1.all (Codec.inInt 0 4294967295)) && true) = true := hwi
        refine ⟨_, a.1, rfl, (ArgL.of hs hO).stay (fun o u e => ?_), ?_, hask, ⟨#[], upd_same, .inl rfl⟩, fun H1 p hp => .lst (L2.SqL.of hp) (L2.dw_ints _)⟩
        · rw [upd_ne (ne_of_none e hn)]; exact e
        · rw [Bool.and_eq_true, Bool.and_eq_true] at q
          exact (Codec.inNat_iff.mp q.1.1).2
end Ns
end
set_option Elab.async false
set_option linter.all false
-- Twenty-four names are taken ahead of the head, so that it lays no quicker copies of the heaps that it writes out: with them the compiled file is over 64 MB. They bear nothing of the proof.
def PySem.W.Fast.tw11699287472890542605 : Nat := 0
def PySem.W.Fast.tw9396244868929739762 : Nat := 0
def PySem.W.Fast.tw18048366462772022461 : Nat := 0
def PySem.W.Fast.tw10008599762219873550 : Nat := 0
def PySem.W.Fast.tw6098310949891181502 : Nat := 0
def PySem.W.Fast.tw1509832796931746944 : Nat := 0
def PySem.W.Fast.tw6045688389142327849 : Nat := 0
def PySem.W.Fast.tw2365515057294940770 : Nat := 0
def PySem.W.Fast.tw10287132243255269825 : Nat := 0
def PySem.W.Fast.tw8054243144285432585 : Nat := 0
def PySem.W.Fast.tw4958150698749834242 : Nat := 0
def PySem.W.Fast.tw5796230565611157206 : Nat := 0
def PySem.W.Fast.tw10681501402871503069 : Nat := 0
def PySem.W.Fast.tw8149516307779461121 : Nat := 0
def PySem.W.Fast.tw11665428387992663756 : Nat := 0
def PySem.W.Fast.tw9399668266273918543 : Nat := 0
def PySem.W.Fast.tw1671546074103352134 : Nat := 0
def PySem.W.Fast.tw1275267933677751116 : Nat := 0
def PySem.W.Fast.tw4835072558740086479 : Nat := 0
def PySem.W.Fast.tw3279091819377629908 : Nat := 0
def PySem.W.Fast.tw16052849920551765577 : Nat := 0
def PySem.W.Fast.tw8959751626157670402 : Nat := 0
def PySem.W.Fast.tw8760032566955271054 : Nat := 0
def PySem.W.Fast.tw16808681882880252419 : Nat := 0
open PySem PySem.W PyProof.Rows
set_option maxRecDepth 100000 in
set_option maxHeartbeats 0 in
theorem PySem.Challenge.cw_namestands_s01_answers_holds : PySem.Challenge.rw_namestands_s01_answers.Holds := by
  w_on; k_headS; (case hw => exact ⟨[.list [.int 0]], by decide +kernel, by decide +kernel⟩)
  k_fillS
  refine Ns.walk_specT (r := PySem.Challenge.rw_namestands_s01_answers) (k := 12) (ps := ["calls"]) (nm := "by_priority") (by decide +kernel) rfl ⟨rfl, by decide, by decide⟩ rfl (fun w h Y => PySem.W.kIn_of Y) ?F
  case F =>
    intro w mg fa h Y KX G hmg
    have T : ∃ t, Ns.Txt (L2.KOf KX) mg t := by
      dsimp only [L2.KOf]
      refine' Ns.txt_mk KX G ?aC_Genus ?aC_Species ?aC_Book ?aC_Reader ?aC_Judge ?aC_Standing ?a_is_genus_word ?l_is_genus_word ?c_is_genus_word ?k_is_genus_word ?a_is_species_word ?l_is_species_word ?c_is_species_word ?k_is_species_word ?a_has_word_length ?l_has_word_length ?c_has_word_length ?k_has_word_length ?a_is_great ?l_is_great ?c_is_great ?k_is_great ?a_is_small ?l_is_small ?c_is_small ?k_is_small ?a_are_small ?l_are_small ?c_are_small ?k_are_small ?a_Genus_init ?i_Genus_init ?l_Genus_init ?c_Genus_init ?k_Genus_init ?a_Species_init ?i_Species_init ?l_Species_init ?c_Species_init ?k_Species_init ?a_Book_init ?i_Book_init ?l_Book_init ?c_Book_init ?k_Book_init ?a_Book_begin ?i_Book_begin ?l_Book_begin ?c_Book_begin ?k_Book_begin ?a_Book_add_genus ?i_Book_add_genus ?l_Book_add_genus ?c_Book_add_genus ?k_Book_add_genus ?a_Book_add_species ?i_Book_add_species ?l_Book_add_species ?c_Book_add_species ?k_Book_add_species ?a_Book_tie_genus ?i_Book_tie_genus ?l_Book_tie_genus ?c_Book_tie_genus ?k_Book_tie_genus ?a_Book_birth_word ?i_Book_birth_word ?l_Book_birth_word ?c_Book_birth_word ?k_Book_birth_word ?a_Book_rule_name ?i_Book_rule_name ?l_Book_rule_name ?c_Book_rule_name ?k_Book_rule_name ?a_Book_place_specimen ?i_Book_place_specimen ?l_Book_place_specimen ?c_Book_place_specimen ?k_Book_place_specimen ?a_Book_place_kind ?i_Book_place_kind ?l_Book_place_kind ?c_Book_place_kind ?k_Book_place_kind ?a_Book_kind_of_species ?i_Book_kind_of_species ?l_Book_kind_of_species ?c_Book_kind_of_species ?k_Book_kind_of_species ?a_Book_group_of_species ?i_Book_group_of_species ?l_Book_group_of_species ?c_Book_group_of_species ?k_Book_group_of_species ?a_Book_group_of_genus ?i_Book_group_of_genus ?l_Book_group_of_genus ?c_Book_group_of_genus ?k_Book_group_of_genus ?a_tell_group_name ?l_tell_group_name ?c_tell_group_name ?k_tell_group_name ?a_tell_kind_name ?l_tell_kind_name ?c_tell_kind_name ?k_tell_kind_name ?a_tell_status ?l_tell_status ?c_tell_status ?k_tell_status ?a_tell_kind_member ?l_tell_kind_member ?c_tell_kind_member ?k_tell_kind_member ?a_Reader_init ?i_Reader_init ?l_Reader_init ?c_Reader_init ?k_Reader_init ?a_Reader_is_done ?i_Reader_is_done ?l_Reader_is_done ?c_Reader_is_done ?k_Reader_is_done ?a_Reader_take_number ?i_Reader_take_number ?l_Reader_take_number ?c_Reader_take_number ?k_Reader_take_number ?a_Reader_take_row ?i_Reader_take_row ?l_Reader_take_row ?c_Reader_take_row ?k_Reader_take_row ?a_by_priority ?l_by_priority ?c_by_priority ?k_by_priority ?a_priority_key ?l_priority_key ?c_priority_key ?k_priority_key ?a_find_group_names ?l_find_group_names ?c_find_group_names ?k_find_group_names ?a_find_kind_members ?l_find_kind_members ?c_find_kind_members ?k_find_kind_members ?a_Judge_init ?i_Judge_init ?l_Judge_init ?c_Judge_init ?k_Judge_init ?a_Judge_find_status ?i_Judge_find_status ?l_Judge_find_status ?c_Judge_find_status ?k_Judge_find_status ?a_Standing_init ?i_Standing_init ?l_Standing_init ?c_Standing_init ?k_Standing_init ?a_answers ?l_answers ?c_answers ?k_answers ?a_answer_telling ?l_answer_telling ?c_answer_telling ?k_answer_telling ?a_answer_question ?l_answer_question ?c_answer_question ?k_answer_question ?a_answer_genus ?l_answer_genus ?c_answer_genus ?k_answer_genus ?a_answer_species ?l_answer_species ?c_answer_species ?k_answer_species ?a_answer_tie ?l_answer_tie ?c_answer_tie ?k_answer_tie ?a_answer_rule ?l_answer_rule ?c_answer_rule ?k_answer_rule ?a_answer_kind ?l_answer_kind ?c_answer_kind ?k_answer_kind ?a_answer_group ?l_answer_group ?c_answer_group ?k_answer_group ?a_answer_names ?l_answer_names ?c_answer_names ?k_answer_names ?pg_Genus ?hd_Genus ?po_Genus ?sa_Genus ?mk_Genus ?kc_Genus ?n_Genus_word ?n_Genus_day ?n_Genus_anchor ?n_Genus_ruling ?pg_Species ?hd_Species ?po_Species ?sa_Species ?mk_Species ?kc_Species ?n_Species_genus ?n_Species_word ?n_Species_day ?n_Species_specimen ?n_Species_ruling ?pg_Book ?hd_Book ?po_Book ?sa_Book ?mk_Book ?kc_Book ?n_Book_genera ?n_Book_species ?n_Book_kinds ?n_Book_groups ?pg_Reader ?hd_Reader ?po_Reader ?sa_Reader ?mk_Reader ?kc_Reader ?n_Reader_numbers ?n_Reader_place ?pg_Judge ?hd_Judge ?po_Judge ?sa_Judge ?mk_Judge ?kc_Judge ?n_Judge_book ?n_Judge_births_taken ?n_Judge_group_words_taken ?n_Judge_words_found ?pg_Standing ?hd_Standing ?po_Standing ?sa_Standing ?mk_Standing ?kc_Standing ?n_Standing_group_names ?n_Standing_kind_members ?n_Standing_statuses ?n_Standing_kind_words ?q_FOREIGN ?q_MISSING ?q_TAKEN ?q_WRONG ?q_FULL ?q_SHORTEST ?q_LONGEST ?q_MOST_GENERA ?q_MOST_SPECIES ?q_LAST_DAY ?q_SPECIMENS ?q_NO_KIND ?q_NO_GROUP ?q_GENUS_RANK ?q_SPECIES_RANK ?q_NOTHING_RULED ?q_REJECTED ?q_CONSERVED ?q_NOTHING_THERE ?q_FOUND ?q_KINDS_WORD ?q_OTHER_IS_WORD ?q_HOMONYM_FROM_BIRTH ?q_HOMONYM_IN_GROUP ?q_IS_REJECTED ?q_NOWHERE ?q_BEGIN ?q_GENUS ?q_SPECIES ?q_TIE ?q_RULE ?q_KIND ?q_GROUP ?q_GENUS_OF ?q_NAME ?q_STATUS ?q_NAMES ?b_all ?b_len ?b_list ?b_range ?b_sorted ?b_tuple ?e_cd ?lc_bp ?v11_bp ?g11_bp ?g18_bp ?g7_bp ?g9_bp ?g10_bp ?ne_bp ?no_bp ?tb_bp
      (case aC_Genus => k_is)
      (case aC_Species => k_is)
      (case aC_Book => k_is)
      (case aC_Reader => k_is)
      (case aC_Judge => k_is)
      (case aC_Standing => k_is)
      (case a_is_genus_word => k_is)
      (case l_is_genus_word => k_is)
      (case c_is_genus_word => k_is)
      (case k_is_genus_word => k_is)
      (case a_is_species_word => k_is)
      (case l_is_species_word => k_is)
      (case c_is_species_word => k_is)
      (case k_is_species_word => k_is)
      (case a_has_word_length => k_is)
      (case l_has_word_length => k_is)
      (case c_has_word_length => k_is)
      (case k_has_word_length => k_is)
      (case a_is_great => k_is)
      (case l_is_great => k_is)
      (case c_is_great => k_is)
      (case k_is_great => k_is)
      (case a_is_small => k_is)
      (case l_is_small => k_is)
      (case c_is_small => k_is)
      (case k_is_small => k_is)
      (case a_are_small => k_is)
      (case l_are_small => k_is)
      (case c_are_small => k_is)
      (case k_are_small => k_is)
      (case a_Genus_init => k_is)
      (case i_Genus_init => k_is)
      (case l_Genus_init => k_is)
      (case c_Genus_init => k_is)
      (case k_Genus_init => k_is)
      (case a_Species_init => k_is)
      (case i_Species_init => k_is)
      (case l_Species_init => k_is)
      (case c_Species_init => k_is)
      (case k_Species_init => k_is)
      (case a_Book_init => k_is)
      (case i_Book_init => k_is)
      (case l_Book_init => k_is)
      (case c_Book_init => k_is)
      (case k_Book_init => k_is)
      (case a_Book_begin => k_is)
      (case i_Book_begin => k_is)
      (case l_Book_begin => k_is)
      (case c_Book_begin => k_is)
      (case k_Book_begin => k_is)
      (case a_Book_add_genus => k_is)
      (case i_Book_add_genus => k_is)
      (case l_Book_add_genus => k_is)
      (case c_Book_add_genus => k_is)
      (case k_Book_add_genus => k_is)
      (case a_Book_add_species => k_is)
      (case i_Book_add_species => k_is)
      (case l_Book_add_species => k_is)
      (case c_Book_add_species => k_is)
      (case k_Book_add_species => k_is)
      (case a_Book_tie_genus => k_is)
      (case i_Book_tie_genus => k_is)
      (case l_Book_tie_genus => k_is)
      (case c_Book_tie_genus => k_is)
      (case k_Book_tie_genus => k_is)
      (case a_Book_birth_word => k_is)
      (case i_Book_birth_word => k_is)
      (case l_Book_birth_word => k_is)
      (case c_Book_birth_word => k_is)
      (case k_Book_birth_word => k_is)
      (case a_Book_rule_name => k_is)
      (case i_Book_rule_name => k_is)
      (case l_Book_rule_name => k_is)
      (case c_Book_rule_name => k_is)
      (case k_Book_rule_name => k_is)
      (case a_Book_place_specimen => k_is)
      (case i_Book_place_specimen => k_is)
      (case l_Book_place_specimen => k_is)
      (case c_Book_place_specimen => k_is)
      (case k_Book_place_specimen => k_is)
      (case a_Book_place_kind => k_is)
      (case i_Book_place_kind => k_is)
      (case l_Book_place_kind => k_is)
      (case c_Book_place_kind => k_is)
      (case k_Book_place_kind => k_is)
      (case a_Book_kind_of_species => k_is)
      (case i_Book_kind_of_species => k_is)
      (case l_Book_kind_of_species => k_is)
      (case c_Book_kind_of_species => k_is)
      (case k_Book_kind_of_species => k_is)
      (case a_Book_group_of_species => k_is)
      (case i_Book_group_of_species => k_is)
      (case l_Book_group_of_species => k_is)
      (case c_Book_group_of_species => k_is)
      (case k_Book_group_of_species => k_is)
      (case a_Book_group_of_genus => k_is)
      (case i_Book_group_of_genus => k_is)
      (case l_Book_group_of_genus => k_is)
      (case c_Book_group_of_genus => k_is)
      (case k_Book_group_of_genus => k_is)
      (case a_tell_group_name => k_is)
      (case l_tell_group_name => k_is)
      (case c_tell_group_name => k_is)
      (case k_tell_group_name => k_is)
      (case a_tell_kind_name => k_is)
      (case l_tell_kind_name => k_is)
      (case c_tell_kind_name => k_is)
      (case k_tell_kind_name => k_is)
      (case a_tell_status => k_is)
      (case l_tell_status => k_is)
      (case c_tell_status => k_is)
      (case k_tell_status => k_is)
      (case a_tell_kind_member => k_is)
      (case l_tell_kind_member => k_is)
      (case c_tell_kind_member => k_is)
      (case k_tell_kind_member => k_is)
      (case a_Reader_init => k_is)
      (case i_Reader_init => k_is)
      (case l_Reader_init => k_is)
      (case c_Reader_init => k_is)
      (case k_Reader_init => k_is)
      (case a_Reader_is_done => k_is)
      (case i_Reader_is_done => k_is)
      (case l_Reader_is_done => k_is)
      (case c_Reader_is_done => k_is)
      (case k_Reader_is_done => k_is)
      (case a_Reader_take_number => k_is)
      (case i_Reader_take_number => k_is)
      (case l_Reader_take_number => k_is)
      (case c_Reader_take_number => k_is)
      (case k_Reader_take_number => k_is)
      (case a_Reader_take_row => k_is)
      (case i_Reader_take_row => k_is)
      (case l_Reader_take_row => k_is)
      (case c_Reader_take_row => k_is)
      (case k_Reader_take_row => k_is)
      (case a_by_priority => k_is)
      (case l_by_priority => k_is)
      (case c_by_priority => k_is)
      (case k_by_priority => k_is)
      (case a_priority_key => k_is)
      (case l_priority_key => k_is)
      (case c_priority_key => k_is)
      (case k_priority_key => k_is)
      (case a_find_group_names => k_is)
      (case l_find_group_names => k_is)
      (case c_find_group_names => k_is)
      (case k_find_group_names => k_is)
      (case a_find_kind_members => k_is)
      (case l_find_kind_members => k_is)
      (case c_find_kind_members => k_is)
      (case k_find_kind_members => k_is)
      (case a_Judge_init => k_is)
      (case i_Judge_init => k_is)
      (case l_Judge_init => k_is)
      (case c_Judge_init => k_is)
      (case k_Judge_init => k_is)
      (case a_Judge_find_status => k_is)
      (case i_Judge_find_status => k_is)
      (case l_Judge_find_status => k_is)
      (case c_Judge_find_status => k_is)
      (case k_Judge_find_status => k_is)
      (case a_Standing_init => k_is)
      (case i_Standing_init => k_is)
      (case l_Standing_init => k_is)
      (case c_Standing_init => k_is)
      (case k_Standing_init => k_is)
      (case a_answers => k_is)
      (case l_answers => k_is)
      (case c_answers => k_is)
      (case k_answers => k_is)
      (case a_answer_telling => k_is)
      (case l_answer_telling => k_is)
      (case c_answer_telling => k_is)
      (case k_answer_telling => k_is)
      (case a_answer_question => k_is)
      (case l_answer_question => k_is)
      (case c_answer_question => k_is)
      (case k_answer_question => k_is)
      (case a_answer_genus => k_is)
      (case l_answer_genus => k_is)
      (case c_answer_genus => k_is)
      (case k_answer_genus => k_is)
      (case a_answer_species => k_is)
      (case l_answer_species => k_is)
      (case c_answer_species => k_is)
      (case k_answer_species => k_is)
      (case a_answer_tie => k_is)
      (case l_answer_tie => k_is)
      (case c_answer_tie => k_is)
      (case k_answer_tie => k_is)
      (case a_answer_rule => k_is)
      (case l_answer_rule => k_is)
      (case c_answer_rule => k_is)
      (case k_answer_rule => k_is)
      (case a_answer_kind => k_is)
      (case l_answer_kind => k_is)
      (case c_answer_kind => k_is)
      (case k_answer_kind => k_is)
      (case a_answer_group => k_is)
      (case l_answer_group => k_is)
      (case c_answer_group => k_is)
      (case k_answer_group => k_is)
      (case a_answer_names => k_is)
      (case l_answer_names => k_is)
      (case c_answer_names => k_is)
      (case k_answer_names => k_is)
      (case pg_Genus => k_is)
      (case hd_Genus => k_is)
      (case po_Genus => k_is)
      (case sa_Genus => k_is)
      (case mk_Genus => k_is)
      (case kc_Genus => k_is)
      (case n_Genus_word => k_is)
      (case n_Genus_day => k_is)
      (case n_Genus_anchor => k_is)
      (case n_Genus_ruling => k_is)
      (case pg_Species => k_is)
      (case hd_Species => k_is)
      (case po_Species => k_is)
      (case sa_Species => k_is)
      (case mk_Species => k_is)
      (case kc_Species => k_is)
      (case n_Species_genus => k_is)
      (case n_Species_word => k_is)
      (case n_Species_day => k_is)
      (case n_Species_specimen => k_is)
      (case n_Species_ruling => k_is)
      (case pg_Book => k_is)
      (case hd_Book => k_is)
      (case po_Book => k_is)
      (case sa_Book => k_is)
      (case mk_Book => k_is)
      (case kc_Book => k_is)
      (case n_Book_genera => k_is)
      (case n_Book_species => k_is)
      (case n_Book_kinds => k_is)
      (case n_Book_groups => k_is)
      (case pg_Reader => k_is)
      (case hd_Reader => k_is)
      (case po_Reader => k_is)
      (case sa_Reader => k_is)
      (case mk_Reader => k_is)
      (case kc_Reader => k_is)
      (case n_Reader_numbers => k_is)
      (case n_Reader_place => k_is)
      (case pg_Judge => k_is)
      (case hd_Judge => k_is)
      (case po_Judge => k_is)
      (case sa_Judge => k_is)
      (case mk_Judge => k_is)
      (case kc_Judge => k_is)
      (case n_Judge_book => k_is)
      (case n_Judge_births_taken => k_is)
      (case n_Judge_group_words_taken => k_is)
      (case n_Judge_words_found => k_is)
      (case pg_Standing => k_is)
      (case hd_Standing => k_is)
      (case po_Standing => k_is)
      (case sa_Standing => k_is)
      (case mk_Standing => k_is)
      (case kc_Standing => k_is)
      (case n_Standing_group_names => k_is)
      (case n_Standing_kind_members => k_is)
      (case n_Standing_statuses => k_is)
      (case n_Standing_kind_words => k_is)
      (case q_FOREIGN => k_is)
      (case q_MISSING => k_is)
      (case q_TAKEN => k_is)
      (case q_WRONG => k_is)
      (case q_FULL => k_is)
      (case q_SHORTEST => k_is)
      (case q_LONGEST => k_is)
      (case q_MOST_GENERA => k_is)
      (case q_MOST_SPECIES => k_is)
      (case q_LAST_DAY => k_is)
      (case q_SPECIMENS => k_is)
      (case q_NO_KIND => k_is)
      (case q_NO_GROUP => k_is)
      (case q_GENUS_RANK => k_is)
      (case q_SPECIES_RANK => k_is)
      (case q_NOTHING_RULED => k_is)
      (case q_REJECTED => k_is)
      (case q_CONSERVED => k_is)
      (case q_NOTHING_THERE => k_is)
      (case q_FOUND => k_is)
      (case q_KINDS_WORD => k_is)
      (case q_OTHER_IS_WORD => k_is)
      (case q_HOMONYM_FROM_BIRTH => k_is)
      (case q_HOMONYM_IN_GROUP => k_is)
      (case q_IS_REJECTED => k_is)
      (case q_NOWHERE => k_is)
      (case q_BEGIN => k_is)
      (case q_GENUS => k_is)
      (case q_SPECIES => k_is)
      (case q_TIE => k_is)
      (case q_RULE => k_is)
      (case q_KIND => k_is)
      (case q_GROUP => k_is)
      (case q_GENUS_OF => k_is)
      (case q_NAME => k_is)
      (case q_STATUS => k_is)
      (case q_NAMES => k_is)
      (case b_all => k_is)
      (case b_len => k_is)
      (case b_list => k_is)
      (case b_range => k_is)
      (case b_sorted => k_is)
      (case b_tuple => k_is)
      (case e_cd => rfl)
      (case lc_bp => k_is)
      (case v11_bp => rfl)
      (case g11_bp => rfl)
      (case g18_bp => rfl)
      (case g7_bp => rfl)
      (case g9_bp => rfl)
      (case g10_bp => rfl)
      (case ne_bp => decide)
      (case no_bp => kernel_rfl)
      (case tb_bp => kernel_rfl)
    obtain ⟨t, T⟩ := T
    exact Ns.walk_tail T hmg
#print axioms PySem.Challenge.cw_namestands_s01_answers_holds
