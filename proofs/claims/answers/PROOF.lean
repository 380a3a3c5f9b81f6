import PyProof.Rows.All
import Wide.All
import OpenK.AllK
import Wide.FinOn
import PyProof.EqAt
import PyProof.EqKinds
import PyProof.TupleCall
import KE.BitLaws
import Open.SpecLaws
import KE.OsHead
import KE.OsGo
import PySem.Challenge.RW_dryhours_s01_answers
set_option Elab.async false
set_option linter.all false
set_option maxRecDepth 100000
namespace L2
open PySem PySem.Spec PyProof.Rows
abbrev Key := Sum Int Str
def keyIs : Key → Value → Bool
  | .inl k, v => Value.isInt k v
  | .inr x, v => Value.isStrOf x v
def keyH (w : World) : Key → Int
  | .inl k => hashInt k
  | .inr x => hashStr w x
theorem keyIs_shape : ∀ {k : Key} {v : Value}, keyIs k v = true → (∃ i t, k = Sum.inl i ∧ v = Value.int i t) ∨ (∃ x t, k = Sum.inr x ∧ v = Value.str x t)
  | .inl i, v, h => by
    obtain ⟨t, e⟩ := Value.isInt_shape (k := i) (v := v) h
    exact .inl ⟨i, t, rfl, e⟩
  | .inr x, v, h => by
    obtain ⟨t, e⟩ := Value.isStrOf_shape (x := x) (v := v) h
    exact .inr ⟨x, t, rfl, e⟩
theorem key_ll (a b : Int) : decide ((Sum.inl a : Key) = Sum.inl b) = (a == b) := by
  by_cases e : a = b
  · subst e; simp
  · have h : ¬ (Sum.inl a : Key) = Sum.inl b := fun q => e (Sum.inl.inj q)
    rw [decide_eq_false h]
    exact (beq_eq_false_iff_ne.mpr e).symm
theorem key_rr (a b : Str) : decide ((Sum.inr a : Key) = Sum.inr b) = decide (a = b) := by
  by_cases e : a = b
  · subst e; simp
  · have h : ¬ (Sum.inr a : Key) = Sum.inr b := fun q => e (Sum.inr.inj q)
    rw [decide_eq_false h, decide_eq_false e]
theorem key_lr (a : Int) (b : Str) : decide ((Sum.inl a : Key) = Sum.inr b) = false := decide_eq_false (fun q => nomatch q)
theorem key_rl (a : Str) (b : Int) : decide ((Sum.inr a : Key) = Sum.inl b) = false := decide_eq_false (fun q => nomatch q)
def mixKind (prog : Program) (w : World) : PySem.KeyKind prog w Key where
  is := keyIs
  hash := keyH w
  inj := fun v a b ha hb => by
    rcases keyIs_shape ha with ⟨i, t, rfl, rfl⟩ | ⟨x, t, rfl, rfl⟩
    · rcases keyIs_shape hb with ⟨j, u, rfl, e⟩ | ⟨y, u, rfl, e⟩
      · injection e with e1 _; rw [e1]
      · exact nomatch e
    · rcases keyIs_shape hb with ⟨j, u, rfl, e⟩ | ⟨y, u, rfl, e⟩
      · exact nomatch e
      · injection e with e1 _; rw [e1]
  byValue := fun k v h => by
    rcases keyIs_shape h with ⟨i, t, rfl, rfl⟩ | ⟨x, t, rfl, rfl⟩ <;> rfl
  pyHash := fun hv h => by
    rcases keyIs_shape hv with ⟨i, t, rfl, rfl⟩ | ⟨x, t, rfl, rfl⟩
    · exact wpAny_pyHash_int h
    · exact wpAny_pyHash_str h
  eqBool := fun hu hv h => by
    rcases keyIs_shape hu with ⟨i, t, rfl, rfl⟩ | ⟨x, t, rfl, rfl⟩
    · rcases keyIs_shape hv with ⟨j, u, rfl, rfl⟩ | ⟨y, u, rfl, rfl⟩
      · rw [key_ll] at h; exact wpAny_eqBool_int h
      · rw [key_lr] at h; exact SeqAt.EqAt.int_str i t y u _ _ _ _ h
    · rcases keyIs_shape hv with ⟨j, u, rfl, rfl⟩ | ⟨y, u, rfl, rfl⟩
      · rw [key_rl] at h; exact SeqAt.EqAt.str_int x t j u _ _ _ _ h
      · rw [key_rr] at h; exact wpAny_eqBool_str h
  «strs» := fun k x t v h => by
    rcases keyIs_shape h with ⟨i, u, rfl, e⟩ | ⟨y, u, rfl, e⟩
    · exact nomatch e
    · injection e with e1 _
      subst e1
      cases v <;> rfl
end L2
namespace L2
open PySem PySem.Spec PyProof.Rows
inductive V where
  | non | bl (b : Bool) | int (i : Int) | str (x : Str) | byt (b : Array UInt8) | flt (b : UInt64) | ref (a : Addr) | ty (n : String)
  deriving DecidableEq
def RelV : V → Value → Prop
  | .non, u => u = Value.none
  | .bl b, u => u = Value.bool b
  | .int i, u => ∃ t, u = Value.int i t
  | .str x, u => ∃ t, u = Value.str x t
  | .byt b, u => ∃ t, u = Value.bytes b t
  | .flt b, u => ∃ t, u = Value.float b t
  | .ref a, u => u = Value.ref a
  | .ty n, u => u = Value.type n
abbrev Vals : List V → List Value → Prop := Paired RelV
theorem Vals.length {xs : List V} {us : List Value} (r : Vals xs us) : xs.length = us.length := Paired.length r
theorem Vals.get : ∀ {xs : List V} {us : List Value} {i : Nat} {x : V}, Vals xs us → xs[i]? = some x → ∃ u, us[i]? = some u ∧ RelV x u
  | _, _, _, _, .nil, e => by simp at e
  | _, _, 0, _, .cons r _, e => by simp at e; subst e; exact ⟨_, rfl, r⟩
  | _, _, i + 1, x, .cons _ t, e => by
    obtain ⟨u, h1, h2⟩ := Vals.get (i := i) (x := x) t (by simpa using e)
    exact ⟨u, by simpa using h1, h2⟩
theorem Vals.set {x : V} {u : Value} (r : RelV x u) : ∀ {xs : List V} {us : List Value} (i : Nat), Vals xs us → Vals (xs.set i x) (us.set i u)
  | _, _, _, .nil => .nil
  | _, _, 0, .cons _ t => .cons r t
  | _, _, i + 1, .cons q t => .cons q (Vals.set r i t)
theorem Vals.append : ∀ {xs ys : List V} {us ws : List Value}, Vals xs us → Vals ys ws → Vals (xs ++ ys) (us ++ ws)
  | _, _, _, _, .nil, s => s
  | _, _, _, _, .cons r t, s => .cons r (Vals.append t s)
theorem Vals.take : ∀ {xs : List V} {us : List Value} (n : Nat), Vals xs us → Vals (xs.take n) (us.take n)
  | _, _, 0, _ => .nil
  | _, _, _ + 1, .nil => .nil
  | _, _, n + 1, .cons r t => .cons r (Vals.take n t)
theorem Vals.drop : ∀ {xs : List V} {us : List Value} (n : Nat), Vals xs us → Vals (xs.drop n) (us.drop n)
  | _, _, 0, r => r
  | _, _, _ + 1, .nil => .nil
  | _, _, n + 1, .cons _ t => Vals.drop n t
def RelO : Option V → Option Value → Prop
  | some v, some u => RelV v u
  | none, none => True
  | _, _ => False
def KV {κ : Type} : List (κ × V) → List (κ × Value) → Prop := Paired fun (p : κ × V) (q : κ × Value) => p.1 = q.1 ∧ RelV p.2 q.2
def kV : Key → V
  | .inl i => .int i
  | .inr x => .str x
inductive HO where
    | lst (xs : List V)
    | tup (xs : List V)
    | dK (kvs : List (Key × V)) | dT (kvs : List (List Key × V))
    | set (S : Int → Bool) (n : Nat)
    | ins (C dx : Addr) (fs : List (Str × V))
    | own (x : Addr)
    | xd (fs : List (Str × V))
    | met (f x : Addr)
    | rng (lo hi : Int)
    | frz (o : Obj) (u : HO)
    | tbl (ps : Array Value)
    | ext (φ : Heap → Prop)
abbrev Hp := Addr → Option HO
def upd (H : Hp) (a : Addr) (o : HO) : Hp := fun b => if b = a then some o else H b
theorem upd_same {H : Hp} {a : Addr} {o : HO} : upd H a o a = some o := by unfold upd; rw [if_pos rfl]
theorem upd_ne {H : Hp} {a b : Addr} {o : HO} (h : b ≠ a) : upd H a o b = H b := by unfold upd; rw [if_neg h]
theorem ne_of {H : Hp} {a b : Addr} {o u : HO} (h : H a = some o) (h' : H b = some u) (d : o ≠ u) : a ≠ b := by
  intro e; subst e; rw [h] at h'; exact d (Option.some.inj h')
theorem ne_of_none {H : Hp} {a b : Addr} {o : HO} (h : H a = some o) (h' : H b = none) : a ≠ b := by
  intro e; subst e; rw [h] at h'; cases h'
section
variable (P : Program) (w : World)
def ObjOk (H : Hp) (h : Heap) (a : Addr) : HO → Prop
  | .lst xs => xs.length ≤ sizeLine ∧ ∃ (its : List Value) (n : Nat), Vals xs its ∧ h.get? a = some { cls := .type "list", data := .seq its.toArray n }
  | .tup xs => xs.length ≤ sizeLine ∧ ∃ its : List Value, Vals xs its ∧ IsTup h a its.toArray
  | .dK kvs => kvs.length ≤ sizeLine ∧ (a == sysModules) = false ∧ ∃ vs, KV kvs vs ∧ h.DictOf (mixKind P w) a vs
  | .dT kvs => kvs.length ≤ sizeLine ∧ (a == sysModules) = false ∧ ∃ xs : List (List Key × Addr × Value),
      Paired (fun (p : List Key × V) (q : List Key × Addr × Value) => p.1 = q.1 ∧ H q.2.1 = some (.tup (p.1.map kV)) ∧ RelV p.2 q.2.2) kvs xs ∧
      ∃ o es ep, h.get? a = some o ∧ o.ExactDict ∧ o.data = .dict es ep ∧ es.toList = xs.map (entryOfKey (tupleKind (mixKind P w))) ∧ (xs.map (·.1)).Nodup
  | .set S n => h.SetOf (intKind P w) a S n
  | .ins C dx fs => H dx = some (.own a) ∧ fs.length ≤ 1000 ∧ dx ≠ a ∧ h.get? a = some (PySem.W.instObj C dx) ∧
      ∃ mA, h.Ns1 dx mA ∧ (∀ f, RelO (fs.lookup f) (mA f)) ∧ PySem.Within mA (fs.map (·.1))
  | .own _ => ∃ o, h.get? a = some o
  | .xd fs => ∃ mA, h.Ns1 a mA ∧ ∀ f, RelO (fs.lookup f) (mA f)
  | .rng lo hi => ∃ t u v, h.get? a = some { cls := .type "range", data := .fields #[.int lo t, .int hi u, .int 1 v] }
  | .frz o u => h.get? a = some o ∧ ObjOk H h a u
  | .tbl ps => h.get? a = some { cls := .none, data := .fields ps }
  | .met f x => h.get? a = some (PySem.W.methodObj (.ref f) (.ref x))
  | .ext φ => φ h ∧ (∃ o, h.get? a = some o) ∧ ∀ h1 h2 : Heap, φ h1 → (∀ o, h1.get? a = some o → h2.get? a = some o) → φ h2
def HOk (H : Hp) (h : Heap) : Prop := ∀ a o, H a = some o → ObjOk P w H h a o
end
section
variable {P : Program} {w : World} {H H' : Hp} {h h' : Heap} {a : Addr} {o : HO}
theorem ObjOk.lt (x : ObjOk P w H h a o) : a < h.objs.size := by
  cases o with
  | lst xs => obtain ⟨_, _, _, _, e⟩ := x; exact Heap.lt_size e
  | tup xs => obtain ⟨_, _, _, p⟩ := x; exact p.lt
  | dK kvs => obtain ⟨_, _, _, _, o, _, _, e, _⟩ := x; exact Heap.lt_size e
  | dT kvs => obtain ⟨_, _, _, _, o, _, _, e, _⟩ := x; exact Heap.lt_size e
  | set S n => obtain ⟨o, _, _, _, e, _⟩ := x; exact Heap.lt_size e
  | ins C dx fs => obtain ⟨_, _, _, e, _⟩ := x; exact Heap.lt_size e
  | own y => obtain ⟨_, e⟩ := x; exact Heap.lt_size e
  | xd fs => obtain ⟨_, ⟨_, _, _, e, _⟩, _⟩ := x; exact Heap.lt_size e
  | rng lo hi => obtain ⟨_, _, _, e⟩ := x; exact Heap.lt_size e
  | frz ob u => obtain ⟨e, _⟩ := x; exact Heap.lt_size e
  | tbl ps => exact Heap.lt_size (show h.get? a = some _ from x)
  | met f y => exact Heap.lt_size (show h.get? a = some _ from x)
  | ext φ => obtain ⟨_, ⟨_, e⟩, _⟩ := x; exact Heap.lt_size e
theorem Paired.mapP {α β : Type} {F G : α → β → Prop} : ∀ {l₁ : List α} {l₂ : List β}, Paired F l₁ l₂ → (∀ a b, F a b → G a b) → Paired G l₁ l₂
  | _, _, .nil, _ => .nil
  | _, _, .cons r t, f => .cons (f _ _ r) (Paired.mapP t f)
theorem ObjOk.stay (x : ObjOk P w H h a o) (k : ∀ b u, (b = a ∨ H b = some (.own a)) → h.get? b = some u → h'.get? b = some u)
    (ho : ∀ b, H b = some (.own a) → H' b = some (.own a)) (ht : ∀ b xs, H b = some (.tup xs) → H' b = some (.tup xs)) : ObjOk P w H' h' a o := by
  induction o with
  | lst xs => obtain ⟨z, its, n, r, e⟩ := x; exact ⟨z, its, n, r, k _ _ (.inl rfl) e⟩
  | tup xs => obtain ⟨z, its, r, ob, e, c⟩ := x; exact ⟨z, its, r, ob, k _ _ (.inl rfl) e, c⟩
  | dK kvs => obtain ⟨z, y, vs, r, ob, es, ep, e, c⟩ := x; exact ⟨z, y, vs, r, ob, es, ep, k _ _ (.inl rfl) e, c⟩
  | dT kvs =>
    obtain ⟨z, y, xs, r, ob, es, ep, e, c⟩ := x
    exact ⟨z, y, xs, Paired.mapP r fun p q z => ⟨z.1, ht _ _ z.2.1, z.2.2⟩, ob, es, ep, k _ _ (.inl rfl) e, c⟩
  | set S n => obtain ⟨ob, es, ep, t, e, c⟩ := x; exact ⟨ob, es, ep, t, k _ _ (.inl rfl) e, c⟩
  | ins C dx fs =>
    obtain ⟨d, z, ne, e, mA, ⟨od, es, ep, e2, c⟩, r⟩ := x
    exact ⟨ho _ d, z, ne, k _ _ (.inl rfl) e, mA, ⟨od, es, ep, k _ _ (.inr d) e2, c⟩, r⟩
  | own y => obtain ⟨ob, e⟩ := x; exact ⟨ob, k _ _ (.inl rfl) e⟩
  | xd fs => obtain ⟨mA, ⟨od, es, ep, e, c⟩, r⟩ := x; exact ⟨mA, ⟨od, es, ep, k _ _ (.inl rfl) e, c⟩, r⟩
  | rng lo hi => obtain ⟨t, u, v, e⟩ := x; exact ⟨t, u, v, k _ _ (.inl rfl) e⟩
  | frz ob u ih => obtain ⟨e, q⟩ := x; exact ⟨k _ _ (.inl rfl) e, ih q⟩
  | tbl ps =>
    have e : h.get? a = some { cls := .none, data := .fields ps } := x
    show h'.get? a = some { cls := .none, data := .fields ps }
    exact k a _ (.inl rfl) e
  | met f y =>
    have e : h.get? a = some (PySem.W.methodObj (.ref f) (.ref y)) := x
    show h'.get? a = some (PySem.W.methodObj (.ref f) (.ref y))
    exact k a _ (.inl rfl) e
  | ext φ => obtain ⟨p, ⟨o, e⟩, st⟩ := x; exact ⟨st _ _ p fun o q => k _ _ (.inl rfl) q, ⟨o, k _ _ (.inl rfl) e⟩, st⟩
theorem HOk.lt (x : HOk P w H h) (e : H a = some o) : a < h.objs.size := (x a o e).lt
theorem HOk.fresh (x : HOk P w H h) (e : h.objs.size ≤ a) : H a = none := by
  cases q : H a with
  | none => rfl
  | some u => exact absurd (Nat.lt_of_lt_of_le (x.lt q) e) (Nat.lt_irrefl _)
theorem HOk.kept (x : HOk P w H h) (k : ∀ b u, h.get? b = some u → h'.get? b = some u) : HOk P w H h' := fun a o e =>
  (x a o e).stay (fun b u _ q => k b u q) (fun _ q => q) fun _ _ q => q
theorem HOk.laid (x : HOk P w H h) (k : ∀ b u, h.get? b = some u → h'.get? b = some u) (hp : h.objs.size ≤ a) (new : ObjOk P w (upd H a o) h' a o) : HOk P w (upd H a o) h' := fun b u e => by
  have hn := x.fresh hp
  by_cases hb : b = a
  · subst hb; rw [upd_same] at e; cases e; exact new
  · rw [upd_ne hb] at e
    exact (x b u e).stay (fun c v _ q => k c v q) (fun c q => by rw [upd_ne (ne_of_none q hn)]; exact q) fun c xs q => by rw [upd_ne (ne_of_none q hn)]; exact q
end
def Rd (H : Hp) (a : Addr) (u : HO) : Prop := H a = some u ∨ ∃ o, H a = some (.frz o u)
theorem Rd.ok {P : Program} {w : World} {H : Hp} {h : Heap} {a : Addr} {u : HO} (r : Rd H a u) (x : HOk P w H h) : ObjOk P w H h a u := by
  rcases r with r | ⟨o, r⟩
  · exact x a u r
  · obtain ⟨_, q⟩ := x a _ r
    exact q
def Mut : Option HO → Prop
  | some (.lst _) => True
  | some (.dK _) => True
  | some (.dT _) => True
  | some (.set _ _) => True
  | some (.ins _ _ _) => True
  | some (.ext _) => True
  | _ => False
section
variable {P : Program} {w : World} {H : Hp} {h h' : Heap} {x e : Addr} {o' : HO}
theorem HOk.write (ok : HOk P w H h) (mu : Mut (H x)) (he : e = x ∨ H e = some (.own x)) (k : ∀ b u, b ≠ e → h.get? b = some u → h'.get? b = some u) (heo : ∃ u, h'.get? e = some u)
    (new : ObjOk P w (upd H x o') h' x o') : HOk P w (upd H x o') h' := fun b u q => by
  have nown : ∀ c y, H c = some (.own y) → c ≠ x := fun c y r z => by subst z; rw [r] at mu; exact mu
  have ntup : ∀ c xs, H c = some (.tup xs) → c ≠ x := fun c xs r z => by subst z; rw [r] at mu; exact mu
  by_cases hb : b = x
  · subst hb; rw [upd_same] at q; cases q; exact new
  · rw [upd_ne hb] at q
    by_cases hbe : b = e
    · have q' : H b = some (.own x) := by
        rcases he with z | z
        · exact absurd (hbe.trans z) hb
        · rw [hbe]; exact z
      rw [q] at q'; cases q'
      obtain ⟨v, hv⟩ := heo
      exact ⟨v, by rw [hbe]; exact hv⟩
    · refine (ok b u q).stay (fun c v hc r => k c v ?_ r) (fun c r => by rw [upd_ne (nown c b r)]; exact r) fun c xs r => by rw [upd_ne (ntup c xs r)]; exact r
      rcases hc with rfl | hc
      · exact hbe
      · rintro rfl
        rcases he with z | z
        · exact nown c b hc z
        · rw [hc] at z; cases z; exact hb rfl
end
structure Un (fs ex : List Addr) (H H' : Hp) (h h' : Heap) : Prop where
  keep : ∀ b o, h.get? b = some o → H b = none → b ∉ fs → b ∉ ex → h'.get? b = some o
  slot : ∀ b o, h.get? b = some o → H b = none → b ∈ fs → b ∉ ex → ∃ sl, h'.get? b = some { o with slots := sl }
  free : ∀ b o, h.get? b = some o → H b = none → b ∉ ex → H' b = none
  there : ∀ b o, h.get? b = some o → b ∉ ex → ∃ o', h'.get? b = some o'
  tups : ∀ b xs, H b = some (.tup xs) → H' b = some (.tup xs)
  frzs : ∀ b o u, H b = some (.frz o u) → H' b = some (.frz o u)
  tbls : ∀ b ps, H b = some (.tbl ps) → ∃ more, H' b = some (.tbl (ps ++ more))
section
variable {fs fs' ex ex' : List Addr} {H H1 H2 : Hp} {h h1 h2 h' : Heap} {a x e : Addr} {o : HO}
theorem Un.any (u : Un fs ex H H1 h h1) {b : Addr} {ob : Obj} (q : h.get? b = some ob) (n : H b = none) (hx : b ∉ ex) : ∃ sl, h1.get? b = some { ob with slots := sl } := by
  by_cases hb : b ∈ fs
  · exact u.slot b ob q n hb hx
  · exact ⟨ob.slots, u.keep b ob q n hb hx⟩
theorem Un.kept (k : ∀ b u, h.get? b = some u → h'.get? b = some u) : Un fs ex H H h h' :=
  ⟨fun b ob q _ _ _ => k b ob q, fun b ob q _ _ _ => ⟨ob.slots, k b ob q⟩, fun _ _ _ n _ => n, fun b ob q _ => ⟨ob, k b ob q⟩, fun _ _ q => q, fun _ _ _ q => q, fun _ ps q => ⟨#[], by rw [q]; simp⟩⟩
theorem Un.refl : Un fs ex H H h h := Un.kept fun _ _ q => q
theorem Un.laid (k : ∀ b u, h.get? b = some u → h'.get? b = some u) (hp : h.objs.size ≤ a) (hn : H a = none) : Un fs ex H (upd H a o) h h' where
  keep := fun b u q _ _ _ => k b u q
  slot := fun b u q _ _ _ => ⟨u.slots, k b u q⟩
  free := fun b u q n _ => by rw [upd_ne (Nat.ne_of_lt (Nat.lt_of_lt_of_le (Heap.lt_size q) hp))]; exact n
  there := fun b u q _ => ⟨u, k b u q⟩
  tups := fun b xs q => by rw [upd_ne (ne_of_none q hn)]; exact q
  frzs := fun b u xs q => by rw [upd_ne (ne_of_none q hn)]; exact q
  tbls := fun b ps q => ⟨#[], by rw [upd_ne (ne_of_none q hn), q]; simp⟩
theorem Un.write (mu : Mut (H x)) (he : e = x ∨ H e = some (.own x)) (k : ∀ b u, b ≠ e → h.get? b = some u → h'.get? b = some u) (heo : ∃ u, h'.get? e = some u) : Un fs ex H (upd H x o) h h' := by
  have hx : ∀ b, H b = none → b ≠ x := fun b n z => by subst z; rw [n] at mu; exact mu
  have hb : ∀ b, H b = none → b ≠ e := fun b n z => by
    subst z
    rcases he with r | r
    · exact hx b n r
    · rw [n] at r; cases r
  have hm : ∀ b u, H b = some u → ¬ Mut (some u) → b ≠ x := fun b u q nm z => by subst z; rw [q] at mu; exact nm mu
  refine ⟨fun b u q n _ _ => k b u (hb b n) q, fun b u q n _ _ => ⟨u.slots, k b u (hb b n) q⟩, fun b u q n _ => by rw [upd_ne (hx b n)]; exact n, fun b u q _ => ?_,
    fun b xs q => by rw [upd_ne (hm b _ q fun z => z)]; exact q, fun b u xs q => by rw [upd_ne (hm b _ q fun z => z)]; exact q, fun b ps q => ⟨#[], by rw [upd_ne (hm b _ q fun z => z), q]; simp⟩⟩
  by_cases hbe : b = e
  · subst hbe; exact heo
  · exact ⟨u, k b u hbe q⟩
end
def trk (h : Heap) (H : Hp) : List Addr := (List.range h.objs.size).filter fun a => (H a).isSome
def hidT (h : Heap) (H : Hp) : Heap := PySem.W.hideAll h (trk h H)
theorem hidT_size (h : Heap) (H : Hp) : (hidT h H).objs.size = h.objs.size := PySem.W.hideAll_size _ _
theorem hidT_get {h : Heap} {H : Hp} {b : Addr} {o : Obj} (e : h.get? b = some o) (n : H b = none) : (hidT h H).get? b = some o :=
  PySem.W.hideAll_get _ e fun hm => by
    have q : (H b).isSome = true := (List.mem_filter.mp hm).2
    rw [n] at q; simp at q
theorem of_hidT {h : Heap} {H : Hp} {b : Addr} {o : Obj} (e : (hidT h H).get? b = some o) : h.get? b = some o ∧ H b = none := by
  have e' : h.get? b = some o := PySem.W.of_hideAll (trk h H) e
  refine ⟨e', ?_⟩
  cases q : H b with
  | none => rfl
  | some x =>
    have hm : b ∈ trk h H := List.mem_filter.mpr ⟨List.mem_range.mpr (Heap.lt_size e'), by simp [q]⟩
    have z : (hidT h H).get? b = none := PySem.W.hideAll_none (trk h H) hm
    rw [z] at e; cases e
end L2
namespace L2
open PySem PySem.Spec PyProof.Rows
structure Mod (K : PySem.W.Frag) (mg : Str → Option Value) (base : Heap) : Prop where
  kin : K.In base
  glob : base.Ns mainGlobals mg
  blt : ∃ mb, base.Ns builtinsNs mb ∧ ∀ x : Str, x ≠ "__name__" → mb x = bootBuiltins x
  nolimit : base.NoLimit
/-- the context: a def's body (or a comprehension's block) running. base: fixed through the whole law; s₀, H₀: the entry; outer: the frames whose slots others may change (a def's callers); stack: all frames that run;
   ex: iterators that were made ahead of the entry and are walked here (a comprehension's); fn: the names whose cells were made at the entry (a def: all; a comprehension's block: its own); calm: not within an except suite; pn: pins that every state bears; xe: what is wanted of an exception that leaves the code -/
structure Cx where
  prog : Program
  w : World
  K : PySem.W.Frag
  mg : Str → Option Value
  base : Heap
  A : Around
  N : List Str
  s_0 : Shared
  H_0 : Hp
  env : Env
  outer : List Env
  stack : List Env
  ex : List Addr
  fn : Str → Bool
  calm : Bool
  pn : List (Addr × Obj)
  xe : Value → Shared → Prop
def frs (l : List Env) : List Addr := l.filterMap (·.frame)
abbrev Cx.fs (X : Cx) : List Addr := frs X.outer
def Vis (sc : Scope) (x : Str) : Prop := sc.names.lookup x = some .local ∨ sc.names.lookup x = some .cell ∨ sc.names.lookup x = some .free
def Loc (sc : Scope) (x : Str) : Prop := sc.names.lookup x = some .local ∨ sc.names.lookup x = some .cell
def Look (env : Env) (h : Heap) (m : Str → Option Value) (x : Str) (u : Value) : Prop :=
  (env.kindOf x = some .local ∧ m x = some u) ∨ ((env.kindOf x = some .cell ∨ env.kindOf x = some .free) ∧ ∃ c, env.cells.lookup x = some c ∧ h.IsCell c (some u))
structure Cx.Ok (X : Cx) : Prop where
  mod : Mod X.K X.mg X.base
  kind : X.env.scope.kind = .function
  glob : X.env.globals = mainGlobals
  blt : X.env.builtins = builtinsNs
  above : X.s_0.heap.objs.size ≤ X.env.locals
  inj : ∀ x y c, X.env.cells.lookup x = some c → X.env.cells.lookup y = some c → x = y
  has : ∀ x, (X.env.kindOf x = some .cell ∨ X.env.kindOf x = some .free) → ∃ c, X.env.cells.lookup x = some c
  cab : ∀ x c, X.fn x = true → X.env.cells.lookup x = some c → X.s_0.heap.objs.size ≤ c
  hd : X.calm = true → X.A.handled = none
  frames : X.A.frames = some X.stack
  stk : X.stack = X.outer ∨ (X.stack = X.env :: X.outer ∧ X.env.frame = some X.env.locals)
  exf : ∀ b ∈ X.ex, b ≠ X.env.locals ∧ ∀ x c, X.env.cells.lookup x = some c → c ≠ b
  bs : ∀ b o, X.base.get? b = some o → X.s_0.heap.get? b = some o ∧ X.H_0 b = none
  bsz : X.base.objs.size ≤ X.s_0.heap.objs.size
  noex : ∀ b o, X.base.get? b = some o → b ∉ X.ex
  exfs : ∀ b ∈ X.ex, b ∉ X.fs
  funs : X.s_0.heap.FunFrames X.base X.outer
  frf : ∀ b ∈ X.fs, X.H_0 b = none
structure Inv (X : Cx) (pins : List (Addr × Obj)) (σ : List (Option V)) (H : Hp) (s : Shared) : Prop where
  ok : X.Ok
  os : s.os = X.s_0.os
  bare : AllBare s.gens
  base : Un X.fs X.ex X.H_0 H X.s_0.heap s.heap
  loc : ∃ m, s.heap.Ns X.env.locals m ∧ ∀ (i : Nat) (x : Str) (v : V), X.N[i]? = some x → σ[i]? = some (some v) → Vis X.env.scope x → ∃ u, RelV v u ∧ Look X.env s.heap m x u
  cell : ∀ x c, X.env.cells.lookup x = some c → ∃ v, s.heap.IsCell c v
  free : H X.env.locals = none
  freeC : ∀ x c, X.env.cells.lookup x = some c → H c = none
  pin : ∀ p ∈ X.pn ++ pins, s.heap.get? p.1 = some p.2 ∧ H p.1 = none ∧ p.1 ≠ X.env.locals ∧ p.1 ∉ X.fs ∧ ∀ v, p.2.data ≠ .cell v
  hok : HOk X.prog X.w H s.heap
  len : σ.length = X.N.length
section
variable {X : Cx} {pins : List (Addr × Obj)} {σ : List (Option V)} {H H' : Hp} {s : Shared} {h' : Heap}
theorem Cx.Ok.nofr (ok : X.Ok) {b : Addr} {o : Obj} (e : X.base.get? b = some o) : b ∉ X.fs := fun hb => by
  have := (ok.funs.mem hb).1
  rw [e] at this; cases this
theorem Inv.bs (I : Inv X pins σ H s) : ∀ b o, X.base.get? b = some o → s.heap.get? b = some o ∧ H b = none := fun b o e =>
  ⟨I.base.keep b o (I.ok.bs b o e).1 (I.ok.bs b o e).2 (I.ok.nofr e) (I.ok.noex b o e), I.base.free b o (I.ok.bs b o e).1 (I.ok.bs b o e).2 (I.ok.noex b o e)⟩
theorem Inv.bk (I : Inv X pins σ H s) : ∀ b o, X.base.get? b = some o → s.heap.get? b = some o := fun b o e => (I.bs b o e).1
theorem Inv.mod (I : Inv X pins σ H s) : Mod X.K X.mg X.base := I.ok.mod
theorem Inv.kIn (I : Inv X pins σ H s) : X.K.In s.heap := I.ok.mod.kin.keeps I.bk
theorem Inv.lt (I : Inv X pins σ H s) : X.env.locals < s.heap.objs.size := let ⟨_, hn, _⟩ := I.loc; hn.lt
theorem Inv.sz (I : Inv X pins σ H s) : X.s_0.heap.objs.size ≤ s.heap.objs.size := Nat.le_trans I.ok.above (Nat.le_of_lt I.lt)
theorem Inv.nofs (I : Inv X pins σ H s) {a : Addr} (h : s.heap.objs.size ≤ a) : a ∉ X.fs := fun hb => by
  obtain ⟨_, o, ho, _⟩ := I.ok.funs.mem hb
  exact absurd (Nat.lt_of_lt_of_le (Heap.lt_size ho) (Nat.le_trans I.sz h)) (Nat.lt_irrefl _)
theorem Inv.cne (I : Inv X pins σ H s) : ∀ x c, X.env.cells.lookup x = some c → c ≠ X.env.locals := fun x c e z => by
  obtain ⟨v, o, ho, hd⟩ := I.cell x c e
  obtain ⟨m, ⟨o', es, ep, ho', hd', _⟩, _⟩ := I.loc
  rw [z, ho'] at ho; cases ho; rw [hd'] at hd; cases hd
theorem Inv.funs (I : Inv X pins σ H s) : s.heap.FunFrames X.base X.outer := by
  have all : ∀ (l : List Env), (∀ b ∈ frs l, b ∈ X.fs) → X.s_0.heap.FunFrames X.base l → s.heap.FunFrames X.base l := by
    intro l
    induction l with
    | nil => intro _ _; trivial
    | cons env r ih =>
      intro hs hl
      obtain ⟨hk, ⟨L, o, hf, hn, ho, hd⟩, hr⟩ := hl
      have hL : L ∈ X.fs := hs L (by unfold frs; rw [List.filterMap_cons, hf]; exact List.mem_cons_self)
      obtain ⟨sl, e⟩ := I.base.slot L o ho (I.ok.frf L hL) hL fun z => I.ok.exfs L z hL
      exact ⟨hk, ⟨L, _, hf, hn, e, hd⟩, ih (fun b hb => hs b (by unfold frs; rw [List.filterMap_cons, hf]; exact List.mem_cons_of_mem _ hb)) hr⟩
  exact all X.outer (fun _ hb => hb) I.ok.funs
theorem Inv.stack (I : Inv X pins σ H s) : s.heap.FunFrames X.base X.stack := by
  rcases I.ok.stk with e | ⟨e, hf⟩
  · rw [e]; exact I.funs
  · rw [e]
    obtain ⟨m, hn, _⟩ := I.loc
    refine .cons (by rw [I.ok.kind]; decide) hf hn ?_ I.funs
    exact Heap.get?_none_of_le (Nat.le_trans I.ok.bsz I.ok.above)
theorem Inv.stkSub (I : Inv X pins σ H s) : ∀ b ∈ frs X.stack, b ∈ X.env.locals :: X.fs := fun b hb => by
  rcases I.ok.stk with e | ⟨e, hf⟩
  · rw [e] at hb; exact List.mem_cons_of_mem _ hb
  · rw [e] at hb
    unfold frs at hb
    rw [List.filterMap_cons, hf] at hb
    exact hb
theorem Inv.stkFree (I : Inv X pins σ H s) : ∀ b ∈ frs X.stack, H b = none := fun b hb => by
  rcases List.mem_cons.mp (I.stkSub b hb) with e | hb
  · rw [e]; exact I.free
  · obtain ⟨_, o, ho, _⟩ := I.ok.funs.mem hb
    exact I.base.free b o ho (I.ok.frf b hb) fun z => I.ok.exfs b z hb
theorem Inv.step {g' : Array GenState} {t' : Nat} {d' : Drawn} {ch : List Addr} (I : Inv X pins σ H s)
    (hch : ∀ b ∈ ch, (b ∈ X.ex ∨ X.s_0.heap.objs.size ≤ b) ∧ b ≠ X.env.locals ∧ (∀ x c, X.env.cells.lookup x = some c → c ≠ b) ∧ ∀ p ∈ X.pn ++ pins, p.1 ≠ b)
    (keep : ∀ b o, b ≠ X.env.locals → b ∉ X.fs → b ∉ ch → s.heap.get? b = some o → H b = none → h'.get? b = some o)
    (slot : ∀ b o, b ≠ X.env.locals → b ∈ X.fs → b ∉ ch → s.heap.get? b = some o → H b = none → ∃ sl, h'.get? b = some { o with slots := sl }) (free : ∀ b o, b ∉ ch → s.heap.get? b = some o → H b = none → H' b = none)
    (there : ∀ b o, b ∉ ch → s.heap.get? b = some o → ∃ o', h'.get? b = some o')
    (tups : ∀ b xs, H b = some (.tup xs) → H' b = some (.tup xs)) (frzs : ∀ b o u, H b = some (.frz o u) → H' b = some (.frz o u)) (tbls : ∀ b ps, H b = some (.tbl ps) → ∃ more, H' b = some (.tbl (ps ++ more)))
    (ns : ∀ m, s.heap.Ns X.env.locals m → h'.Ns X.env.locals m) (hok : HOk X.prog X.w H' h') (hg : AllBare g') :
    Inv X pins σ H' { s with heap := h', gens := g', drawn := d', toks := t' } := by
  have neL : ∀ b o, X.s_0.heap.get? b = some o → b ≠ X.env.locals := fun b o e => Nat.ne_of_lt (Nat.lt_of_lt_of_le (Heap.lt_size e) I.ok.above)
  have neC : ∀ b o, X.s_0.heap.get? b = some o → b ∉ X.ex → b ∉ ch := fun b o e hx hb => by
    rcases (hch b hb).1 with z | z
    · exact hx z
    · exact absurd (Nat.lt_of_lt_of_le (Heap.lt_size e) z) (Nat.lt_irrefl _)
  have cellK : ∀ x c, X.env.cells.lookup x = some c → ∀ v, s.heap.IsCell c v → h'.IsCell c v := fun x c e v ⟨o, ho, hd⟩ => by
    have nch : c ∉ ch := fun z => (hch c z).2.2.1 x c e rfl
    by_cases hc : c ∈ X.fs
    · obtain ⟨sl, q⟩ := slot c o (I.cne x c e) hc nch ho (I.freeC x c e)
      exact ⟨_, q, hd⟩
    · exact ⟨o, keep c o (I.cne x c e) hc nch ho (I.freeC x c e), hd⟩
  refine ⟨I.ok, I.os, hg, ⟨fun b o e n hb hx => ?_, fun b o e n hb hx => ?_, fun b o e n hx => ?_, fun b o e hx => ?_, fun b xs e => tups b xs (I.base.tups b xs e), fun b o xs e => frzs b o xs (I.base.frzs b o xs e), fun b ps e => ?_⟩, ?_, fun x c e => ?_, ?_, fun x c e => ?_, fun p hp => ?_, hok, I.len⟩
  · exact keep b o (neL b o e) hb (neC b o e hx) (I.base.keep b o e n hb hx) (I.base.free b o e n hx)
  · obtain ⟨sl, e1⟩ := I.base.slot b o e n hb hx
    obtain ⟨sl', e2⟩ := slot b _ (neL b o e) hb (neC b o e hx) e1 (I.base.free b o e n hx)
    exact ⟨sl', e2⟩
  · obtain ⟨o', e1⟩ := I.base.there b o e hx
    exact free b o' (neC b o e hx) e1 (I.base.free b o e n hx)
  · obtain ⟨o', e1⟩ := I.base.there b o e hx
    exact there b o' (neC b o e hx) e1
  · obtain ⟨m1, e1⟩ := I.base.tbls b ps e
    obtain ⟨m2, e2⟩ := tbls b _ e1
    exact ⟨m1 ++ m2, by rw [e2, Array.append_assoc]⟩
  · obtain ⟨m, hn, hl⟩ := I.loc
    refine ⟨m, ns m hn, fun i x v e1 e2 e3 => ?_⟩
    obtain ⟨u, r, l⟩ := hl i x v e1 e2 e3
    refine ⟨u, r, ?_⟩
    rcases l with l | ⟨k, c, e, z⟩
    · exact .inl l
    · exact .inr ⟨k, c, e, cellK x c e _ z⟩
  · obtain ⟨v, z⟩ := I.cell x c e
    exact ⟨v, cellK x c e v z⟩
  · obtain ⟨m, ⟨o, _, _, ho, _⟩, _⟩ := I.loc
    exact free _ o (fun z => (hch _ z).2.1 rfl) ho I.free
  · obtain ⟨v, o, ho, hd⟩ := I.cell x c e
    exact free c o (fun z => (hch c z).2.2.1 x c e rfl) ho (I.freeC x c e)
  · obtain ⟨e, n, ne, nf, d⟩ := I.pin p hp
    have nch : p.1 ∉ ch := fun z => (hch p.1 z).2.2.2 p hp rfl
    exact ⟨keep p.1 p.2 ne nf nch e n, free p.1 p.2 nch e n, ne, nf, d⟩
theorem Inv.un {t' : Nat} (I : Inv X pins σ H s) (u : Un X.fs [] H H' s.heap h') (hok : HOk X.prog X.w H' h') : Inv X pins σ H' { s with heap := h', toks := t' } := by
  obtain ⟨m, ⟨o, es, ep, ho, r⟩, _⟩ := id I.loc
  obtain ⟨sl, hL⟩ := u.any ho I.free (by simp)
  exact I.step (g' := s.gens) (d' := s.drawn) (ch := []) (fun _ z => nomatch z) (fun b o _ hb _ e n => u.keep b o e n hb (by simp)) (fun b o _ hb _ e n => u.slot b o e n hb (by simp)) (fun b o _ e n => u.free b o e n (by simp)) (fun b o _ e => u.there b o e (by simp)) u.tups u.frzs u.tbls (fun m' hm => by
    obtain ⟨o', es', ep', ho', r'⟩ := hm
    rw [ho] at ho'; cases ho'
    exact ⟨_, es', ep', hL, r'⟩) hok I.bare
theorem Inv.call {g' : Array GenState} {t' : Nat} {d' : Drawn} {ch : List Addr} (I : Inv X pins σ H s) (u : Un (frs X.stack) ch H H' s.heap h') (hok : HOk X.prog X.w H' h') (hg : AllBare g')
    (hch : ∀ b ∈ ch, (b ∈ X.ex ∨ X.s_0.heap.objs.size ≤ b) ∧ b ≠ X.env.locals ∧ (∀ x c, X.env.cells.lookup x = some c → c ≠ b) ∧ ∀ p ∈ X.pn ++ pins, p.1 ≠ b) :
    Inv X pins σ H' { s with heap := h', gens := g', drawn := d', toks := t' } := by
  obtain ⟨m, ⟨o, es, ep, ho, r⟩, _⟩ := id I.loc
  obtain ⟨sl, hL⟩ := u.any ho I.free fun z => (hch _ z).2.1 rfl
  exact I.step (ch := ch) hch (fun b o hL hb hc e n => u.keep b o e n (fun z => (List.mem_cons.mp (I.stkSub b z)).elim hL hb) hc) (fun b o _ _ hc e n => u.any e n hc) (fun b o hc e n => u.free b o e n hc) (fun b o hc e => u.there b o e hc) u.tups u.frzs u.tbls (fun m' hm => by
    obtain ⟨o', es', ep', ho', r'⟩ := hm
    rw [ho] at ho'; cases ho'
    exact ⟨_, es', ep', hL, r'⟩) hok hg
theorem Inv.turned {t' : Nat} {it : Addr} (I : Inv X pins σ H s) (k : ∀ b o, b ≠ it → s.heap.get? b = some o → h'.get? b = some o) (hn : H it = none) (hL : it ≠ X.env.locals)
    (h1 : it ∈ X.ex ∨ X.s_0.heap.objs.size ≤ it) (h2 : ∀ x c, X.env.cells.lookup x = some c → c ≠ it) (h3 : ∀ p ∈ X.pn ++ pins, p.1 ≠ it) : Inv X pins σ H { s with heap := h', toks := t' } := by
  have nit : ∀ b u, H b = some u → b ≠ it := fun b u e z => by rw [z, hn] at e; cases e
  refine I.step (g' := s.gens) (d' := s.drawn) (ch := [it]) (fun b hb => ?_) (fun b o _ _ hc e _ => k b o (fun z => hc (by simp [z])) e) (fun b o _ _ hc e _ => ⟨o.slots, k b o (fun z => hc (by simp [z])) e⟩) (fun _ _ _ _ n => n)
    (fun b o hc e => ⟨o, k b o (fun z => hc (by simp [z])) e⟩) (fun _ _ e => e) (fun _ _ _ e => e) (fun b ps e => ⟨#[], by rw [e]; simp⟩) (fun m hm => ?_) (fun b u e => ?_) I.bare
  · have e : b = it := by simpa using hb
    subst e
    exact ⟨h1, hL, h2, h3⟩
  · obtain ⟨o, es, ep, ho, r⟩ := hm
    exact ⟨o, es, ep, k _ o (Ne.symm hL) ho, r⟩
  · refine (I.hok b u e).stay (fun c v hc q => k c v ?_ q) (fun _ q => q) fun _ _ q => q
    rcases hc with z | z
    · rw [z]; exact nit b u e
    · exact nit c _ z
theorem Inv.tok (I : Inv X pins σ H s) (t : Nat) : Inv X pins σ H { s with toks := t } := I.un (h' := s.heap) (t' := t) Un.refl I.hok
theorem Inv.kept {t' : Nat} (I : Inv X pins σ H s) (k : ∀ b u, s.heap.get? b = some u → h'.get? b = some u) : Inv X pins σ H { s with heap := h', toks := t' } := I.un (Un.kept k) (I.hok.kept k)
theorem Inv.laid {a : Addr} {o : HO} {t' : Nat} (I : Inv X pins σ H s) (k : ∀ b u, s.heap.get? b = some u → h'.get? b = some u) (hp : s.heap.objs.size ≤ a) (new : ObjOk X.prog X.w (upd H a o) h' a o) :
    Inv X pins σ (upd H a o) { s with heap := h', toks := t' } := I.un (Un.laid k hp (I.hok.fresh hp)) (I.hok.laid k hp new)
theorem Inv.write {x e : Addr} {o : HO} {t' : Nat} (I : Inv X pins σ H s) (mu : Mut (H x)) (he : e = x ∨ H e = some (.own x)) (k : ∀ b u, b ≠ e → s.heap.get? b = some u → h'.get? b = some u) (heo : ∃ u, h'.get? e = some u)
    (new : ObjOk X.prog X.w (upd H x o) h' x o) : Inv X pins σ (upd H x o) { s with heap := h', toks := t' } := I.un (Un.write mu he k heo) (I.hok.write mu he k heo new)
theorem Inv.weak {σ' : List (Option V)} (I : Inv X pins σ H s) (hl : σ'.length = σ.length) (w : ∀ (i : Nat) v, σ'[i]? = some (some v) → σ[i]? = some (some v)) : Inv X pins σ' H s :=
  ⟨I.ok, I.os, I.bare, I.base, let ⟨m, hn, hl'⟩ := I.loc; ⟨m, hn, fun i x v e1 e2 e3 => hl' i x v e1 (w i v e2) e3⟩, I.cell, I.free, I.freeC, I.pin, I.hok, hl.trans I.len⟩
theorem Inv.pins_of {pins' : List (Addr × Obj)} (I : Inv X pins σ H s) (h : ∀ p ∈ pins', s.heap.get? p.1 = some p.2 ∧ H p.1 = none ∧ p.1 ≠ X.env.locals ∧ p.1 ∉ X.fs ∧ ∀ v, p.2.data ≠ .cell v) : Inv X pins' σ H s :=
  ⟨I.ok, I.os, I.bare, I.base, I.loc, I.cell, I.free, I.freeC, fun p hp => (List.mem_append.mp hp).elim (fun z => I.pin p (List.mem_append_left _ z)) (h p), I.hok, I.len⟩
theorem nodup_ix {N : List Str} (hN : N.Nodup) {i j : Nat} {x : Str} (a : N[i]? = some x) (b : N[j]? = some x) : i = j := by
  obtain ⟨h1, e1⟩ := List.getElem?_eq_some_iff.mp a
  obtain ⟨h2, e2⟩ := List.getElem?_eq_some_iff.mp b
  exact (List.getElem_inj hN).mp (e1.trans e2.symm)
theorem store_ok2 {M : Model} {A : Around} {E : Value → Shared → Prop} {i : Nat} {x : Str} {v : V} {u : Value} {Q : Unit → Shared → Prop} (I : Inv X pins σ H s) (hN : X.N.Nodup) (hi : X.N[i]? = some x) (hx : Loc X.env.scope x) (r : RelV v u)
    (h : ∀ s', Inv X pins (σ.set i (some v)) H s' → (∃ a, Heap.SameBut a s.heap s'.heap ∧ (a = X.env.locals ∨ X.env.cells.lookup x = some a)) → Q () s') (hf : X.fn x = true ∨ X.env.scope.names.lookup x = some .local := by first | exact .inl rfl | exact .inr rfl | assumption) : wpAny M A (storeName X.env x u) Q E s := by
  obtain ⟨m, hn, hl⟩ := id I.loc
  have hcls : (X.env.scope.kind == .class || (X.env.scope.kind == .module && X.env.locals != X.env.globals)) = false := by rw [I.ok.kind]; rfl
  have hiσ : i < σ.length := by rw [I.len]; exact (List.getElem?_eq_some_iff.mp hi).1
  have cne := I.cne
  have tracked : ∀ {a : Addr} {h' : Heap}, (∃ o, s.heap.get? a = some o ∧ H a = none) → Heap.SameBut a s.heap h' → HOk X.prog X.w H h' := fun {a h'} ha hs b ob e => by
    obtain ⟨_, _, hfree⟩ := ha
    refine (I.hok b ob e).stay (fun c w' hc q => (hs.2 c ?_).trans q) (fun _ q => q) fun _ _ q => q
    rintro rfl
    rcases hc with rfl | hc
    · rw [hfree] at e; cases e
    · rw [hfree] at hc; cases hc
  rcases hx with hk | hk
  · refine wpAny_storeName_local hk hn (fun h' hn' hs => ?_) hcls
    obtain ⟨oL, _, _, hoL, _⟩ := id hn
    refine h _ ⟨I.ok, I.os, I.bare, ⟨fun b o e n hb hx => ?_, fun b o e n hb hx => ?_, I.base.free, fun b o e hx => ?_, I.base.tups, I.base.frzs, I.base.tbls⟩, ⟨_, hn', fun j y v' e1 e2 e3 => ?_⟩, fun y c e => ?_, I.free, I.freeC, fun p hp => ?_, tracked ⟨oL, hoL, I.free⟩ hs, by simpa using I.len⟩ ⟨_, hs, .inl rfl⟩
    · exact (hs.2 b (Nat.ne_of_lt (Nat.lt_of_lt_of_le (Heap.lt_size e) I.ok.above))).trans (I.base.keep b o e n hb hx)
    · obtain ⟨sl, e1⟩ := I.base.slot b o e n hb hx
      exact ⟨sl, (hs.2 b (Nat.ne_of_lt (Nat.lt_of_lt_of_le (Heap.lt_size e) I.ok.above))).trans e1⟩
    · obtain ⟨o', e1⟩ := I.base.there b o e hx
      exact ⟨o', (hs.2 b (Nat.ne_of_lt (Nat.lt_of_lt_of_le (Heap.lt_size e) I.ok.above))).trans e1⟩
    · by_cases hj : j = i
      · subst hj
        rw [hi] at e1; cases e1
        rw [List.getElem?_set_self hiσ] at e2
        cases e2
        exact ⟨u, r, .inl ⟨hk, by simp⟩⟩
      · rw [List.getElem?_set_ne (Ne.symm hj)] at e2
        obtain ⟨u', r', q⟩ := hl j y v' e1 e2 e3
        refine ⟨u', r', ?_⟩
        rcases q with ⟨k, e⟩ | ⟨k, c, e, z⟩
        · refine .inl ⟨k, ?_⟩
          have : y ≠ x := fun e => hj (nodup_ix hN e1 (e ▸ hi))
          simp [this, e]
        · exact .inr ⟨k, c, e, z.sameBut hs (cne y c e)⟩
    · obtain ⟨w', z⟩ := I.cell y c e
      exact ⟨w', z.sameBut hs (cne y c e)⟩
    · obtain ⟨e, n, ne, nf, d⟩ := I.pin p hp
      exact ⟨(hs.2 p.1 ne).trans e, n, ne, nf, d⟩
  · have hfn : X.fn x = true := by
      rcases hf with z | z
      · exact z
      · rw [z] at hk; cases hk
    obtain ⟨c, hc⟩ := I.ok.has x (.inl hk)
    obtain ⟨w', z⟩ := I.cell x c hc
    refine wpAny_storeName_cell I.ok.kind hk hc z (fun h' hc' hs => ?_)
    obtain ⟨oc, hoc, hocd⟩ := id z
    refine h { s with heap := h' } ⟨I.ok, I.os, I.bare, ⟨fun b o e n hb hx => ?_, fun b o e n hb hx => ?_, I.base.free, fun b o e hx => ?_, I.base.tups, I.base.frzs, I.base.tbls⟩, ⟨m, hn.sameBut hs (Ne.symm (cne x c hc)), fun j y v' e1 e2 e3 => ?_⟩, fun y c' e => ?_, I.free, I.freeC, fun p hp => ?_, tracked ⟨oc, hoc, I.freeC x c hc⟩ hs, by simpa using I.len⟩ ⟨c, hs, .inr hc⟩
    · exact (hs.2 b (Nat.ne_of_lt (Nat.lt_of_lt_of_le (Heap.lt_size e) (I.ok.cab x c hfn hc)))).trans (I.base.keep b o e n hb hx)
    · obtain ⟨sl, e1⟩ := I.base.slot b o e n hb hx
      exact ⟨sl, (hs.2 b (Nat.ne_of_lt (Nat.lt_of_lt_of_le (Heap.lt_size e) (I.ok.cab x c hfn hc)))).trans e1⟩
    · obtain ⟨o', e1⟩ := I.base.there b o e hx
      exact ⟨o', (hs.2 b (Nat.ne_of_lt (Nat.lt_of_lt_of_le (Heap.lt_size e) (I.ok.cab x c hfn hc)))).trans e1⟩
    · by_cases hj : j = i
      · subst hj
        rw [hi] at e1; cases e1
        rw [List.getElem?_set_self hiσ] at e2
        cases e2
        exact ⟨u, r, .inr ⟨.inl hk, c, hc, hc'⟩⟩
      · rw [List.getElem?_set_ne (Ne.symm hj)] at e2
        obtain ⟨u', r', q⟩ := hl j y v' e1 e2 e3
        refine ⟨u', r', ?_⟩
        rcases q with q | ⟨k, c', e, z'⟩
        · exact .inl q
        · refine .inr ⟨k, c', e, z'.sameBut hs ?_⟩
          rintro rfl
          exact hj (nodup_ix hN e1 (I.ok.inj _ _ _ e hc ▸ hi))
    · by_cases hcc : c' = c
      · subst hcc; exact ⟨_, hc'⟩
      · obtain ⟨w2, z2⟩ := I.cell y c' e
        exact ⟨w2, z2.sameBut hs hcc⟩
    · obtain ⟨e, n, ne, nf, d⟩ := I.pin p hp
      refine ⟨(hs.2 p.1 ?_).trans e, n, ne, nf, d⟩
      intro q
      rw [q, hoc] at e
      have q' : oc = p.2 := Option.some.inj e
      exact d w' (by rw [← q']; exact hocd)
theorem store_ok {M : Model} {A : Around} {E : Value → Shared → Prop} {i : Nat} {x : Str} {v : V} {u : Value} {Q : Unit → Shared → Prop} (I : Inv X pins σ H s) (hN : X.N.Nodup) (hi : X.N[i]? = some x) (hx : Loc X.env.scope x) (r : RelV v u)
    (h : ∀ s', Inv X pins (σ.set i (some v)) H s' → Q () s') (hf : X.fn x = true ∨ X.env.scope.names.lookup x = some .local := by first | exact .inl rfl | exact .inr rfl | assumption) : wpAny M A (storeName X.env x u) Q E s :=
  store_ok2 I hN hi hx r (fun s' I' _ => h s' I') hf
theorem Inv.call' {s' : Shared} {ch : List Addr} (I : Inv X pins σ H s) (ho : s'.os = s.os) (u : Un (frs X.stack) ch H H' s.heap s'.heap) (hok : HOk X.prog X.w H' s'.heap) (hg : AllBare s'.gens)
    (hch : ∀ b ∈ ch, (b ∈ X.ex ∨ X.s_0.heap.objs.size ≤ b) ∧ b ≠ X.env.locals ∧ (∀ x c, X.env.cells.lookup x = some c → c ≠ b) ∧ ∀ p ∈ X.pn ++ pins, p.1 ≠ b) : Inv X pins σ H' s' := by
  obtain ⟨h', g', d', t', o'⟩ := s'
  have e : o' = s.os := ho
  subst e
  exact I.call (g' := g') (t' := t') (d' := d') u hok hg hch
end
abbrev XK := Value → Option Addr → Hp → Prop
abbrev St := List (Option V)
abbrev VK := V → Hp → Prop
abbrev TE := St → Hp → VK → Prop
abbrev TT := St → Hp → (Bool → Hp → Prop) → Prop
abbrev TA := St → Hp → (List V → Hp → Prop) → Prop
structure Ends where
  nx : St → Hp → Prop
  rt : VK
  bk : St → Hp → Prop := fun _ _ => False
  ct : St → Hp → Prop := fun _ _ => False
abbrev TS := Ends → St → Hp → Prop
def EP (X : Cx) (pins : List (Addr × Obj)) (σ : St) (Q : VK) (u : Value) (s' : Shared) : Prop := ∃ v H', Inv X pins σ H' s' ∧ RelV v u ∧ Q v H'
def TP (X : Cx) (pins : List (Addr × Obj)) (σ : St) (Q : Bool → Hp → Prop) (b : Bool) (s' : Shared) : Prop := ∃ H', Inv X pins σ H' s' ∧ Q b H'
def AP (X : Cx) (pins : List (Addr × Obj)) (σ : St) (Q : List V → Hp → Prop) (us : List Value) (s' : Shared) : Prop := ∃ vs H', Inv X pins σ H' s' ∧ Vals vs us ∧ Q vs H'
def SP (X : Cx) (pins : List (Addr × Obj)) (D : Ends) (f : Flow) (s' : Shared) : Prop :=
  match f with
  | .next => ∃ σ' H', Inv X pins σ' H' s' ∧ D.nx σ' H'
  | .brk => ∃ σ' H', Inv X pins σ' H' s' ∧ D.bk σ' H'
  | .cont => ∃ σ' H', Inv X pins σ' H' s' ∧ D.ct σ' H'
  | .ret u => ∃ v σ' H', Inv X pins σ' H' s' ∧ RelV v u ∧ D.rt v H'
def PE (X : Cx) (e : Expr) (t : TE) : Prop :=
  ∀ (pins : List (Addr × Obj)) (s : Shared) (σ : St) (H : Hp) (Q : VK), Inv X pins σ H s → t σ H Q → wpAny (model X.prog X.w) X.A (eval e X.env) (EP X pins σ Q) X.xe s
def PT (X : Cx) (e : Expr) (t : TT) : Prop :=
  ∀ (pins : List (Addr × Obj)) (s : Shared) (σ : St) (H : Hp) (Q : Bool → Hp → Prop), Inv X pins σ H s → t σ H Q → wpAny (model X.prog X.w) X.A (isTrue e X.env (eval e X.env)) (TP X pins σ Q) X.xe s
def PW (X : Cx) (e : Expr) (t : TT) : Prop :=
  ∀ (whole : Sem Value) (pins : List (Addr × Obj)) (s : Shared) (σ : St) (H : Hp) (Q : Bool → Hp → Prop), Inv X pins σ H s → t σ H Q → wpAny (model X.prog X.w) X.A (isTrue e X.env whole) (TP X pins σ Q) X.xe s
theorem PW.pt {X : Cx} {e : Expr} {t : TT} (h : PW X e t) : PT X e t := h _
def PA (X : Cx) (es : List Expr) (t : TA) : Prop :=
  ∀ (pos : Pos) (pins : List (Addr × Obj)) (s : Shared) (σ : St) (H : Hp) (Q : List V → Hp → Prop), Inv X pins σ H s → t σ H Q → wpAny (model X.prog X.w) X.A (spliced (backTo pos (starEach es X.env))) (AP X pins σ Q) X.xe s
def PS (X : Cx) (st : Stmt) (t : TS) : Prop :=
  ∀ (pins : List (Addr × Obj)) (s : Shared) (σ : St) (H : Hp) (D : Ends), Inv X pins σ H s → t D σ H → wpAny (model X.prog X.w) X.A (exec st X.env) (SP X pins D) X.xe s
def PSs (X : Cx) (st : List Stmt) (t : TS) : Prop :=
  ∀ (pins : List (Addr × Obj)) (s : Shared) (σ : St) (H : Hp) (D : Ends), Inv X pins σ H s → t D σ H → wpAny (model X.prog X.w) X.A (execs st X.env) (SP X pins D) X.xe s
theorem thn {α : Type} {t : Sem α} {Q Q' : α → Shared → Prop} {M : Model} {A : Around} {E : Value → Shared → Prop} {s : Shared} (h : wpAny M A t Q E s) (hQ : ∀ a s, Q a s → Q' a s) : wpAny M A t Q' E s := wpAny_mono h hQ fun _ _ x => x
end L2
namespace L2
open PySem PySem.Spec PyProof.Rows
section
variable {X : Cx}
def tVar (i : Nat) : TE := fun σ H Q => ∃ v, σ[i]? = some (some v) ∧ Q v H
def tC (v : V) : TE := fun _ H Q => Q v H
theorem pe_var {i : Nat} {x : Str} {pos : Pos} (hN : X.N[i]? = some x) (hv : Vis X.env.scope x) (hd : (x == ("__debug__" : Str)) = false := by decide) (hcd : (x == ("__classdict__" : Str)) = false := by decide) : PE X (.Name x pos) (tVar i) := by
  intro pins s σ H Q I h
  obtain ⟨v, e, h⟩ := h
  obtain ⟨m, hn, hl⟩ := I.loc
  obtain ⟨u, r, l⟩ := hl i x v hN e hv
  have fin : EP X pins σ Q u s := ⟨v, H, I, r, h⟩
  rcases l with ⟨hk, hm⟩ | ⟨hk, c, hc, hcell⟩
  · exact wpAny_Name (wpAny_loadName_local I.ok.kind hk hn hm fin) hd
  · rcases hk with hk | hk
    · exact wpAny_Name (wpAny_loadName_cell I.ok.kind hk hc hcell fin) hd
    · exact wpAny_Name (wpAny_loadName_free I.ok.kind hk hc hcell fin hcd) hd
theorem pe_int {i j pos} : PE X (.Constant (.int i) j pos) (tC (.int i)) := fun _ _ _ H _ I h => wpAny_Constant_int ⟨.int i, H, I.tok _, ⟨_, rfl⟩, h⟩
theorem pe_bl {b j pos} : PE X (.Constant (.bool b) j pos) (tC (.bl b)) := fun _ _ _ H _ I h => Constant_bool ⟨.bl b, H, I, rfl, h⟩
theorem pe_non {j pos} : PE X (.Constant .none j pos) (tC .non) := fun _ _ _ H _ I h => Constant_none ⟨.non, H, I, rfl, h⟩
def Gl (X : Cx) (x : Str) : Prop := X.env.kindOf x = some .globalImplicit
theorem ld_glob {E : Value → Shared → Prop} {pins : List (Addr × Obj)} {s : Shared} {σ : St} {H : Hp} {x : Str} {u : Value} {pos : Pos} {Q : Value → Shared → Prop} (I : Inv X pins σ H s) (hg : Gl X x) (hm : X.mg x = some u) (h : Q u s)
    (hd : (x == ("__debug__" : Str)) = false := by decide) : wpAny (model X.prog X.w) X.A (eval (.Name x pos) X.env) Q E s :=
  Calls.Name_function_global I.ok.kind hg (Calls.loadGlobal_global (by rw [I.ok.glob]; exact I.mod.glob.keeps I.bk) hm h) hd
theorem ld_blt {E : Value → Shared → Prop} {pins : List (Addr × Obj)} {s : Shared} {σ : St} {H : Hp} {x : Str} {u : Value} {pos : Pos} {Q : Value → Shared → Prop} (I : Inv X pins σ H s) (hg : Gl X x) (hm : X.mg x = none) (hv : bootBuiltins x = some u) (h : Q u s)
    (hn : x ≠ "__name__" := by decide) (hd : (x == ("__debug__" : Str)) = false := by decide) : wpAny (model X.prog X.w) X.A (eval (.Name x pos) X.env) Q E s := by
  obtain ⟨mb, h1, h2⟩ := I.mod.blt
  exact Calls.Name_function_global I.ok.kind hg (Calls.loadGlobal_builtin (by rw [I.ok.glob]; exact I.mod.glob.keeps I.bk) hm (by rw [I.ok.blt]; exact h1.keeps I.bk) ((h2 x hn).trans hv) h) hd
theorem pe_glob {x : Str} {v : V} {u : Value} {pos : Pos} (hg : Gl X x) (hm : X.mg x = some u) (r : RelV v u) (hd : (x == ("__debug__" : Str)) = false := by decide) : PE X (.Name x pos) (tC v) :=
  fun _ _ _ H _ I h => ld_glob I hg hm ⟨v, H, I, r, h⟩ hd
variable {a b : Expr} {ta tb : TE} {pos : Pos}
def tB (t : TE) : TT := fun σ H Q => t σ H fun x H1 => ∃ c, x = .bl c ∧ Q c H1
theorem pt_val {e : Expr} {t : TE} (h : PE X e t) (he : ∀ whole, isTrue e X.env whole = (do let v ← whole; standAt e.pos; holding [v] (truthy v)) := by intro _; rfl) : PT X e (tB t) := by
  intro pins s σ H Q I hw
  refine isTrue_plain (thn (h pins s σ H _ I hw) fun v s1 ⟨x, H1, I1, r1, q1⟩ => ?_) (he _)
  obtain ⟨d, rfl, q⟩ := q1
  cases r1
  exact wpAny_truthy_bool ⟨H1, I1, q⟩
variable {tA tB' : TT} {rest : List Expr}
def tAnd (t u : TT) : TT := fun σ H Q => t σ H fun c H1 => if c = true then u σ H1 Q else Q false H1
def tOr (t u : TT) : TT := fun σ H Q => t σ H fun c H1 => if c = true then Q true H1 else u σ H1 Q
def tNot (t : TT) : TT := fun σ H Q => t σ H fun c H1 => Q (!c) H1
theorem pw_and1 (ha : PT X a tA) : PW X (.BoolOp .And [a] pos) tA := by
  intro wh pins s σ H Q I h
  refine isTrue_and (thn (ha pins s σ H Q I h) fun c s1 e => ?_)
  cases c with
  | true => exact isTrue_and_nil e
  | false => exact e
theorem pw_or1 (ha : PT X a tA) : PW X (.BoolOp .Or [a] pos) tA := by
  intro wh pins s σ H Q I h
  refine isTrue_or (thn (ha pins s σ H Q I h) fun c s1 e => ?_)
  cases c with
  | false => exact isTrue_or_nil e
  | true => exact e
theorem pw_and (ha : PT X a tA) (hb : PW X (.BoolOp .And (b :: rest) pos) tB') : PW X (.BoolOp .And (a :: b :: rest) pos) (tAnd tA tB') := by
  intro wh pins s σ H Q I h
  refine isTrue_and (thn (ha pins s σ H _ I h) fun c s1 ⟨H1, I1, q1⟩ => ?_)
  cases c with
  | true => exact hb wh pins s1 σ H1 Q I1 q1
  | false => exact ⟨H1, I1, q1⟩
theorem pw_or (ha : PT X a tA) (hb : PW X (.BoolOp .Or (b :: rest) pos) tB') : PW X (.BoolOp .Or (a :: b :: rest) pos) (tOr tA tB') := by
  intro wh pins s σ H Q I h
  refine isTrue_or (thn (ha pins s σ H _ I h) fun c s1 ⟨H1, I1, q1⟩ => ?_)
  cases c with
  | true => exact ⟨H1, I1, q1⟩
  | false => exact hb wh pins s1 σ H1 Q I1 q1
theorem pt_not (ha : PT X a tA) : PT X (.UnaryOp .Not a pos) (tNot tA) := by
  intro pins s σ H Q I h
  exact isTrue_not (ha pins s σ H (fun c H1 => Q (!c) H1) I h)
def tAndV (ta tb : TE) : TE := fun σ H Q => ta σ H fun x H1 => ∃ c, x = .bl c ∧ if c = true then tb σ H1 Q else Q (.bl false) H1
theorem pe_one {op} {t : TE} (h : PE X a t) : PE X (.BoolOp op [a] pos) t := fun pins s σ H Q I hw => BoolOp_one (h pins s σ H Q I hw)
theorem pe_and (ha : PE X a ta) (hb : PE X (.BoolOp .And (b :: rest) pos) tb) : PE X (.BoolOp .And (a :: b :: rest) pos) (tAndV ta tb) := by
  intro pins s σ H Q I h
  refine BoolOp_and (thn (ha pins s σ H _ I h) fun v s1 ⟨x, H1, I1, r1, q1⟩ => ?_)
  obtain ⟨c, rfl, q1⟩ := q1
  cases r1
  refine wpAny_truthy_bool ?_
  cases c with
  | true => exact hb pins s1 σ H1 Q I1 q1
  | false => exact ⟨.bl false, H1, I1, rfl, q1⟩
def tIf (t : TT) (ta tb : TE) : TE := fun σ H Q => t σ H fun c H1 => if c = true then ta σ H1 Q else tb σ H1 Q
theorem pe_ifExp {c : Expr} (hc : PT X c tA) (ha : PE X a ta) (hb : PE X b tb) : PE X (.IfExp c a b pos) (tIf tA ta tb) := by
  intro pins s σ H Q I h
  refine wpAny_IfExp (thn (hc pins s σ H _ I h) fun d s1 ⟨H1, I1, q1⟩ => ?_)
  cases d with
  | true => exact ha pins s1 σ H1 Q I1 q1
  | false => exact hb pins s1 σ H1 Q I1 q1
end
end L2
namespace L2
open PySem PySem.Spec PyProof.Rows
def SqL (K : PySem.W.Frag) (H : Hp) (a : Addr) (xs : List V) : Prop :=
  Rd H a (.lst xs) ∨
    ∃ (o : Obj) (its : Array Value) (n : Nat), K.lookup a = some o ∧ o.cls = .type "list" ∧ o.dict = none ∧ o.data = .seq its n ∧ its.size ≤ sizeLine ∧ Vals xs its.toList
def SqT (K : PySem.W.Frag) (H : Hp) (a : Addr) (xs : List V) : Prop :=
  Rd H a (.tup xs) ∨
    ∃ (o : Obj) (its : Array Value) (n : Nat), K.lookup a = some o ∧ o.cls = .type "tuple" ∧ o.data = .seq its n ∧ its.size ≤ sizeLine ∧ Vals xs its.toList
def absV : Value → Option V
  | .none => some .non
  | .bool b => some (.bl b)
  | .int i _ => some (.int i)
  | .str x _ => some (.str x)
  | .bytes b _ => some (.byt b)
  | .float b _ => some (.flt b)
  | .ref a => some (.ref a)
  | .type n => some (.ty n)
  | _ => none
theorem RelV.abs {x : V} {u : Value} (r : RelV x u) : absV u = some x := by
  cases x with
  | non => cases r; rfl
  | bl _ => cases r; rfl
  | int _ => obtain ⟨t, rfl⟩ := r; rfl
  | str _ => obtain ⟨t, rfl⟩ := r; rfl
  | byt _ => obtain ⟨t, rfl⟩ := r; rfl
  | flt _ => obtain ⟨t, rfl⟩ := r; rfl
  | ref _ => cases r; rfl
  | ty _ => cases r; rfl
theorem RelV.inj {x y : V} {u : Value} (r : RelV x u) (q : RelV y u) : x = y := Option.some.inj (r.abs.symm.trans q.abs)
theorem Vals.inj : ∀ {xs ys : List V} {us : List Value}, Vals xs us → Vals ys us → xs = ys
  | _, _, _, .nil, .nil => rfl
  | _, _, _, .cons r t, .cons r' t' => by rw [r.inj r', Vals.inj t t']
section
variable {X : Cx} {pins : List (Addr × Obj)} {σ : St} {H : Hp} {s : Shared} {a : Addr} {xs ys : List V}
theorem SqL.of {K : PySem.W.Frag} (h : H a = some (.lst xs)) : SqL K H a xs := .inl (.inl h)
theorem SqT.of {K : PySem.W.Frag} (h : H a = some (.tup xs)) : SqT K H a xs := .inl (.inl h)
theorem Inv.list (I : Inv X pins σ H s) (h : SqL X.K H a xs) : ∃ its : List Value, Vals xs its ∧ PlainL s.heap a its.toArray ∧ xs.length ≤ sizeLine := by
  rcases h with h | ⟨o, its, n, hk, hc, hd, hs, hz, r⟩
  · obtain ⟨z, its, n, r, e⟩ := h.ok I.hok
    exact ⟨its, r, ⟨_, n, e, rfl, rfl, rfl⟩, z⟩
  · refine ⟨its.toList, r, ⟨o, n, I.kIn a o hk, hc, hd, by simpa using hs⟩, ?_⟩
    have e := r.length
    simp only [Array.length_toList] at e
    omega
theorem Inv.tuple (I : Inv X pins σ H s) (h : SqT X.K H a xs) : ∃ its : List Value, Vals xs its ∧ IsTup s.heap a its.toArray ∧ xs.length ≤ sizeLine := by
  rcases h with h | ⟨o, its, n, hk, hc, hs, hz, r⟩
  · obtain ⟨z, its, r, p⟩ := h.ok I.hok
    exact ⟨its, r, p, z⟩
  · refine ⟨its.toList, r, ⟨o, I.kIn a o hk, hc, n, by simpa using hs⟩, ?_⟩
    have e := r.length
    simp only [Array.length_toList] at e
    omega
theorem Inv.list_inj (I : Inv X pins σ H s) (h : SqL X.K H a xs) (h' : SqL X.K H a ys) : xs = ys := by
  obtain ⟨its, r, ⟨o, n, e, _, _, d⟩, _⟩ := I.list h
  obtain ⟨its', r', ⟨o', n', e', _, _, d'⟩, _⟩ := I.list h'
  rw [e] at e'; cases e'
  rw [d] at d'
  injection d' with d1 _
  have : its = its' := by simpa using congrArg Array.toList d1
  subst this
  exact r.inj r'
end
abbrev Cx.wish (X : Cx) (E : Value → Shared → Prop) : Cx := { X with xe := E }
abbrev Cx.nox (X : Cx) : Cx := X.wish fun _ _ => False
theorem Cx.Ok.wish {X : Cx} (ok : X.Ok) (E : Value → Shared → Prop) : (X.wish E).Ok :=
  ⟨ok.mod, ok.kind, ok.glob, ok.blt, ok.above, ok.inj, ok.has, ok.cab, ok.hd, ok.frames, ok.stk, ok.exf, ok.bs, ok.bsz, ok.noex, ok.exfs, ok.funs, ok.frf⟩
theorem Cx.Ok.unwish {X : Cx} {E : Value → Shared → Prop} (ok : (X.wish E).Ok) : X.Ok :=
  ⟨ok.mod, ok.kind, ok.glob, ok.blt, ok.above, ok.inj, ok.has, ok.cab, ok.hd, ok.frames, ok.stk, ok.exf, ok.bs, ok.bsz, ok.noex, ok.exfs, ok.funs, ok.frf⟩
section
variable {X : Cx} {pins : List (Addr × Obj)} {σ : St} {H : Hp} {s : Shared} {E : Value → Shared → Prop}
theorem Inv.wish (I : Inv X pins σ H s) (E : Value → Shared → Prop) : Inv (X.wish E) pins σ H s := ⟨I.ok.wish E, I.os, I.bare, I.base, I.loc, I.cell, I.free, I.freeC, I.pin, I.hok, I.len⟩
theorem Inv.unwish (I : Inv (X.wish E) pins σ H s) : Inv X pins σ H s := ⟨I.ok.unwish, I.os, I.bare, I.base, I.loc, I.cell, I.free, I.freeC, I.pin, I.hok, I.len⟩
theorem SP.unwish {D : Ends} {f : Flow} {s' : Shared} (h : SP (X.wish E) pins D f s') : SP X pins D f s' := by
  cases f with
  | next => obtain ⟨σ', H', I, q⟩ := h; exact ⟨σ', H', I.unwish, q⟩
  | brk => obtain ⟨σ', H', I, q⟩ := h; exact ⟨σ', H', I.unwish, q⟩
  | cont => obtain ⟨σ', H', I, q⟩ := h; exact ⟨σ', H', I.unwish, q⟩
  | ret u => obtain ⟨v, σ', H', I, r, q⟩ := h; exact ⟨v, σ', H', I.unwish, r, q⟩
theorem PSs.nox {st : List Stmt} {t : TS} (h : PSs X.nox st t) : PSs X st t := fun pins s σ H D I hw =>
  wpAny_mono (h pins s σ H D (I.wish _) hw) (fun _ _ q => q.unwish) fun _ _ z => False.elim z
end
section
variable {X : Cx} {st : Stmt} {rest : List Stmt} {t u : TS} {e : Expr} {te : TE} {pos : Pos}
def tNext : TS := fun D σ H => D.nx σ H
def tSeq (t u : TS) : TS := fun D σ H => t { D with nx := u D } σ H
theorem pss_nil : PSs X [] tNext := fun _ _ σ H _ I h => wpAny_execs_nil ⟨σ, H, I, h⟩
theorem pss_cons (h1 : PS X st t) (h2 : PSs X rest u) : PSs X (st :: rest) (tSeq t u) := by
  intro pins s σ H D I h
  refine wpAny_execs_cons (thn (h1 pins s σ H { D with nx := u D } I h) fun f s1 q => ?_)
  cases f with
  | next =>
    obtain ⟨σ', H', I', q⟩ := q
    exact h2 pins s1 σ' H' D I' q
  | ret v => exact q
  | brk => exact q
  | cont => exact q
theorem pss_one (h1 : PS X st t) : PSs X [st] t := by
  intro pins s σ H D I h
  refine wpAny_execs_cons (thn (h1 pins s σ H D I h) fun f s1 q => ?_)
  cases f with
  | next => exact wpAny_execs_nil q
  | ret v => exact q
  | brk => exact q
  | cont => exact q
theorem Inv.quiet {pins : List (Addr × Obj)} {σ : St} {H : Hp} {s : Shared} (I : Inv X pins σ H s) : interactive X.env = false := by simp [interactive, I.ok.kind]
def tDrop (te : TE) : TS := fun D σ H => te σ H fun _ H1 => D.nx σ H1
theorem ps_expr (he : PE X e te) (hs : swapsWith e none pos.line X.env = pure false := by rfl) : PS X (.Expr e pos) (tDrop te) := by
  intro pins s σ H D I h
  exact wpAny_Expr_any (thn (he pins s σ H _ I h) fun v s1 ⟨x, H1, I1, r1, q1⟩ => ⟨σ, H1, I1, q1⟩) I.quiet hs
def tRet (te : TE) : TS := fun D σ H => te σ H D.rt
theorem ps_ret (he : PE X e te) : PS X (.Return (some e) pos) (tRet te) := by
  intro pins s σ H D I h
  exact wpAny_Return_some (thn (he pins s σ H _ I h) fun v s1 ⟨x, H1, I1, r1, q1⟩ => ⟨x, σ, H1, I1, r1, q1⟩)
def tIfS (c : TT) (t u : TS) : TS := fun D σ H => c σ H fun b H1 => if b = true then t D σ H1 else u D σ H1
theorem ps_if {c : Expr} {a b : List Stmt} {tc : TT} (hc : PT X c tc) (ha : PSs X a t) (hb : PSs X b u) : PS X (.If c a b pos) (tIfS tc t u) := by
  intro pins s σ H D I h
  refine wpAny_If (thn (hc pins s σ H _ I h) fun d s1 ⟨H1, I1, q1⟩ => ?_)
  cases d with
  | true => exact ha pins s1 σ H1 D I1 q1
  | false => exact hb pins s1 σ H1 D I1 q1
end
abbrev TG := V → St → Hp → (St → Hp → Prop) → Prop
abbrev TGs := List V → St → Hp → (St → Hp → Prop) → Prop
def PG (X : Cx) (target : Expr) (t : TG) : Prop :=
  ∀ (pins : List (Addr × Obj)) (s : Shared) (σ : St) (H : Hp) (v : V) (u : Value) (Q : St → Hp → Prop), Inv X pins σ H s → RelV v u → t v σ H Q →
    wpAny (model X.prog X.w) X.A (assign target X.env u) (fun _ s' => ∃ σ' H', Inv X pins σ' H' s' ∧ Q σ' H') X.xe s
def PGs (X : Cx) (ts : List Expr) (t : TGs) : Prop :=
  ∀ (pins : List (Addr × Obj)) (s : Shared) (σ : St) (H : Hp) (vs : List V) (us : List Value) (Q : St → Hp → Prop), Inv X pins σ H s → Vals vs us → t vs σ H Q →
    wpAny (model X.prog X.w) X.A (assignInOrder ((assignEach ts X.env).map (·.2)) us) (fun _ s' => ∃ σ' H', Inv X pins σ' H' s' ∧ Q σ' H') X.xe s
abbrev TSet := V → V → V → Hp → (Hp → Prop) → Prop
def PSet (X : Cx) (t : TSet) : Prop :=
  ∀ (pins : List (Addr × Obj)) (s : Shared) (σ : St) (H : Hp) (o i v : V) (ov iv u : Value) (Q : Hp → Prop), Inv X pins σ H s → RelV o ov → RelV i iv → RelV v u → t o i v H Q →
    wpAny (model X.prog X.w) X.A (setItem ov iv u) (fun _ s' => ∃ H', Inv X pins σ H' s' ∧ Q H') X.xe s
abbrev TIp := V → V → Hp → VK → Prop
def PIp (X : Cx) (op : Operator) (t : TIp) : Prop :=
  ∀ (pins : List (Addr × Obj)) (s : Shared) (σ : St) (H : Hp) (x y : V) (v u : Value) (Q : VK), Inv X pins σ H s → RelV x v → RelV y u → t x y H Q →
    wpAny (model X.prog X.w) X.A (inplaceOp op v u) (EP X pins σ Q) X.xe s
section
variable {X : Cx} {pos : Pos}
def gName (i : Nat) : TG := fun v σ H Q => Q (σ.set i (some v)) H
theorem pg_name {i : Nat} {x : Str} (hN : X.N.Nodup) (hi : X.N[i]? = some x) (hx : Loc X.env.scope x) (hf : X.fn x = true ∨ X.env.scope.names.lookup x = some .local := by first | exact .inl rfl | exact .inr rfl | assumption) : PG X (.Name x pos) (gName i) := by
  intro pins s σ H v u Q I r h
  exact wpAny_assign_Name (store_ok I hN hi hx r (fun s' I' => ⟨_, H, I', h⟩) hf)
def gNil : TGs := fun vs σ H Q => vs = [] ∧ Q σ H
def gCons (t : TG) (u : TGs) : TGs := fun vs σ H Q => ∃ v r, vs = v :: r ∧ t v σ H fun σ' H' => u r σ' H' Q
theorem pgs_nil : PGs X [] gNil := by
  intro pins s σ H vs us Q I r h
  obtain ⟨e, h⟩ := h
  subst e
  cases r
  exact assignInOrder_nil ⟨σ, H, I, h⟩
theorem pgs_cons {e : Expr} {es : List Expr} {t : TG} {u : TGs} (h1 : PG X e t) (h2 : PGs X es u)
    (hs : (assignEach (e :: es) X.env).map (·.2) = assign e X.env :: (assignEach es X.env).map (·.2) := by rfl) : PGs X (e :: es) (gCons t u) := by
  intro pins s σ H vs us Q I r h
  obtain ⟨v, vr, e1, h⟩ := h
  subst e1
  cases r with
  | cons r rr =>
    rw [hs]
    refine assignInOrder_cons (thn (h1 pins s σ H _ _ _ I r h) fun _ s1 ⟨σ1, H1, I1, q1⟩ => ?_)
    exact h2 pins s1 σ1 H1 _ _ Q I1 rr q1
def gTup (K : PySem.W.Frag) (n : Nat) (t : TGs) : TG := fun v σ H Q => ∃ a xs, v = .ref a ∧ SqT K H a xs ∧ xs.length = n ∧ t xs σ H Q
theorem pg_tup {es : List Expr} {k : Nat} {t : TGs} {n : Nat} (hc : X.calm = true) (h : PGs X es t)
    (hn : (assignEach es X.env).length = n := by rfl) (hst : (assignEach es X.env).findIdx? (·.1) = none := by rfl) : PG X (.Tuple es k pos) (gTup X.K n t) := by
  intro pins s σ H v u Q I r hw
  obtain ⟨a, xs, e1, hq, hl, hw⟩ := hw
  subst e1
  cases r
  obtain ⟨its, rv, ht, hz⟩ := I.tuple hq
  refine assign_Tuple_tuple (I.ok.hd hc) ht (by simp [hn, ← hl, rv.length]) hst fun h' hx => ?_
  have I1 : Inv X pins σ H { s with heap := h' } := I.kept (t' := s.toks) fun b o e => hx b o (Nat.ne_of_lt (Heap.lt_size e)) e
  exact h pins _ σ H xs _ Q I1 (by simpa using rv) hw
def gSub (to ti : TE) (t : TSet) : TG := fun v σ H Q => to σ H fun o H1 => ti σ H1 fun i H2 => t o i v H2 fun H3 => Q σ H3
theorem pg_sub {o i : Expr} {to ti : TE} {t : TSet} (ho : PE X o to) (hi : PE X i ti) (hs : PSet X t)
    (ha : ∀ v, assign (.Subscript o i pos) X.env v = (do
      let ov ← holding [v] (eval o X.env)
      let iv ← holding [v, ov] (eval i X.env)
      standAt pos
      holding [v, ov, iv] (setItem ov iv v)
      release [v, ov, iv] []) := by intro _; rfl) : PG X (.Subscript o i pos) (gSub to ti t) := by
  intro pins s σ H v u Q I r h
  rw [ha]
  refine wpAny_bind (wpAny_holding (thn (ho pins s σ H _ I h) fun ov s1 ⟨x, H1, I1, r1, q1⟩ => ?_))
  refine wpAny_bind (wpAny_holding (thn (hi pins s1 σ H1 _ I1 q1) fun iv s2 ⟨y, H2, I2, r2, q2⟩ => ?_))
  refine wpAny_bind (wpAny_standAt (wpAny_bind (wpAny_holding (thn (hs pins s2 σ H2 x y v ov iv u _ I2 r1 r2 r q2) fun _ s3 ⟨H3, I3, q3⟩ => ?_))))
  exact wpAny_release ⟨σ, H3, I3, q3⟩
def tAsg (te : TE) (g : TG) : TS := fun D σ H => te σ H fun x H1 => g x σ H1 D.nx
theorem ps_asg {tg e : Expr} {te : TE} {g : TG} (he : PE X e te) (hg : PG X tg g) (hs : swapsWithSole [tg] e pos.line X.env = pure false := by rfl) (hw : swappedStores [tg] e X.env = pure none := by rfl)
    (h1 : (assignEach [tg] X.env).map (·.2) = [assign tg X.env] := by rfl) : PS X (.Assign [tg] e pos) (tAsg te g) := by
  intro pins s σ H D I h
  refine wpAny_Assign_stores (thn (he pins s σ H _ I h) fun v s1 ⟨x, H1, I1, r1, q1⟩ => ?_) hs hw
  rw [h1]
  exact thn (hg pins s1 σ H1 x v _ I1 r1 q1) fun _ s2 q => q
theorem ps_set {i : Nat} {x : Str} {e : Expr} {te : TE} {pos' : Pos} (hN : X.N.Nodup) (hi : X.N[i]? = some x) (hx : Loc X.env.scope x) (he : PE X e te) (hs : swapsWith e (some (.Name x pos')) pos.line X.env = pure false := by rfl) (hf : X.fn x = true ∨ X.env.scope.names.lookup x = some .local := by first | exact .inl rfl | exact .inr rfl | assumption) :
    PS X (.Assign [.Name x pos'] e pos) (tAsg te (gName i)) := by
  intro pins s σ H D I h
  refine wpAny_Assign_Name (thn (he pins s σ H _ I h) fun v s1 ⟨y, H1, I1, r1, q1⟩ => ?_) hs
  exact store_ok I1 hN hi hx r1 (fun s2 I2 => ⟨_, H1, I2, q1⟩) hf
def tAug (i : Nat) (te : TE) (ti : TIp) : TS := fun D σ H => ∃ x, σ[i]? = some (some x) ∧ te σ H fun y H1 => ti x y H1 fun z H2 => D.nx (σ.set i (some z)) H2
theorem ps_aug {i : Nat} {x : Str} {e : Expr} {te : TE} {op : Operator} {ti : TIp} {pos' : Pos} (hN : X.N.Nodup) (hi : X.N[i]? = some x) (hx : Loc X.env.scope x) (he : PE X e te) (ho : PIp X op ti) (hf : X.fn x = true ∨ X.env.scope.names.lookup x = some .local := by first | exact .inl rfl | exact .inr rfl | assumption) :
    PS X (.AugAssign (.Name x pos') op e pos) (tAug i te ti) := by
  intro pins s σ H D I h
  obtain ⟨v, e1, h⟩ := h
  obtain ⟨m, hn, hl⟩ := I.loc
  have vis : Vis X.env.scope x := by rcases hx with k | k; exact .inl k; exact .inr (.inl k)
  obtain ⟨u, r, l⟩ := hl i x v hi e1 vis
  refine wpAny_AugAssign_Name ?_
  have go : wpAny (model X.prog X.w) X.A (eval e X.env) (fun w s₂ => wpAny (model X.prog X.w) X.A (inplaceOp op u w) (fun r s₃ => wpAny (model X.prog X.w) X.A (storeName X.env x r) (fun _ => SP X pins D .next) X.xe s₃) X.xe s₂) X.xe s := by
    refine thn (he pins s σ H _ I h) fun w s1 ⟨y, H1, I1, r1, q1⟩ => ?_
    refine thn (ho pins s1 σ H1 v y u w _ I1 r r1 q1) fun z s2 ⟨zv, H2, I2, r2, q2⟩ => ?_
    exact store_ok I2 hN hi hx r2 (fun s3 I3 => ⟨_, H2, I3, q2⟩) hf
  rcases l with ⟨hk, hm⟩ | ⟨hk, c, hc, hcell⟩
  · exact wpAny_loadName_local I.ok.kind hk hn hm go
  · rcases hk with hk | hk
    · exact wpAny_loadName_cell I.ok.kind hk hc hcell go
    · rcases hx with k | k
      · have : X.env.scope.names.lookup x = some .free := hk
        rw [k] at this; cases this
      · have : X.env.scope.names.lookup x = some .free := hk
        rw [k] at this; cases this
def ipI (f : Int → Int → Int) : TIp := fun x y H Q => ∃ i j, x = .int i ∧ y = .int j ∧ Q (.int (f i j)) H
theorem ip_add : PIp X .Add (ipI fun i j => i + j) := by
  intro pins s σ H x y v u Q I r1 r2 h
  obtain ⟨i, j, e1, e2, q⟩ := h
  subst e1; subst e2
  obtain ⟨t, rfl⟩ := r1
  obtain ⟨t', rfl⟩ := r2
  exact iadd_int ⟨.int _, H, I.tok _, ⟨_, rfl⟩, q⟩
end
section
variable {X : Cx} {pos : Pos}
def tWhile (c : TT) (tb : TS) : TS := fun D σ H => ∃ W : Nat → St → Hp → Prop, (∃ m, W m σ H) ∧ ∀ m σ H, W m σ H →
  c σ H fun b H1 => if b = true then ∃ N : St → Hp → Prop, (∀ σ' H', N σ' H' → ∃ m', m' < m ∧ W m' σ' H') ∧ tb { D with nx := N, ct := N, bk := D.nx } σ H1 else D.nx σ H1
theorem ps_while {c : Expr} {body : List Stmt} {tc : TT} {tb : TS} (hp : PassesOwn (model X.prog X.w) X.A X.env X.xe) (hc : PT X c tc) (hb : PSs X body tb) : PS X (.While c body [] pos) (tWhile tc tb) := by
  intro pins s σ H D I h
  obtain ⟨W, ⟨m0, w0⟩, turn⟩ := h
  refine wpAny_While (codeAny_whileLoop (fun n s' => ∃ σ' H', Inv X pins σ' H' s' ∧ W n σ' H') ?_ m0 ⟨σ, H, I, w0⟩)
  rintro n s1 ⟨σ1, H1, I1, w1⟩
  refine wpAny_passesOwn hp (thn (hc pins s1 σ1 H1 _ I1 (turn n σ1 H1 w1)) fun b s2 ⟨H2, I2, q2⟩ => ?_)
  cases b with
  | true =>
    obtain ⟨N, hN, q2⟩ := q2
    rw [if_pos rfl]
    refine wpAny_passesOwn hp (thn (hb pins s2 σ1 H2 _ I2 q2) fun f s3 q3 => ?_)
    cases f with
    | next =>
      obtain ⟨σ3, H3, I3, n3⟩ := q3
      obtain ⟨m', hm, w3⟩ := hN σ3 H3 n3
      exact ⟨m', hm, σ3, H3, I3, w3⟩
    | cont =>
      obtain ⟨σ3, H3, I3, n3⟩ := q3
      obtain ⟨m', hm, w3⟩ := hN σ3 H3 n3
      exact ⟨m', hm, σ3, H3, I3, w3⟩
    | brk => exact q3
    | ret v => exact q3
  | false =>
    rw [if_neg Bool.false_ne_true]
    exact wpAny_execs_nil ⟨σ1, H2, I2, q2⟩
end
structure It where
  go : Nat → Hp → Prop
  yld : Nat → Hp → V → Hp → Prop
  stop : Nat → Hp → Prop
def FpOk (X : Cx) (pins : List (Addr × Obj)) (H : Hp) (b : Addr) : Prop :=
  H b = none ∧ b ≠ X.env.locals ∧ b ∉ X.fs ∧ (b ∈ X.ex ∨ X.s_0.heap.objs.size ≤ b) ∧ (∀ x c, X.env.cells.lookup x = some c → c ≠ b) ∧ ∀ p ∈ X.pn ++ pins, p.1 ≠ b
theorem Inv.fpOk {X : Cx} {pins : List (Addr × Obj)} {σ : St} {H H' : Hp} {s : Shared} {b : Addr} (I : Inv X pins σ H s) (hb : s.heap.objs.size ≤ b) (hn : H' b = none) : FpOk X pins H' b := by
  refine ⟨hn, Nat.ne_of_gt (Nat.lt_of_lt_of_le I.lt hb), I.nofs hb, .inr (Nat.le_trans I.sz hb), fun x c e z => ?_, fun p hp z => ?_⟩
  · obtain ⟨v, q⟩ := I.cell x c e
    exact absurd (Nat.lt_of_lt_of_le q.lt (by rw [z]; exact hb)) (Nat.lt_irrefl _)
  · exact absurd (Nat.lt_of_lt_of_le (Heap.lt_size (I.pin p hp).1) (by rw [z]; exact hb)) (Nat.lt_irrefl _)
structure Turn (P : Program) (w : World) (K : PySem.W.Frag) (tg : Expr) (J : It) (fp : List Addr) (it : Addr) (tn : Nat → Heap → Prop) : Prop where
  mem : it ∈ fp
  obj : ∀ i h, tn i h → ∀ b ∈ fp, ∃ o, h.get? b = some o ∧ ∀ v, o.data ≠ .cell v
  keep : ∀ i h h', tn i h → (∀ b ∈ fp, ∀ o, h.get? b = some o → h'.get? b = some o) → tn i h'
  item : ∀ (X : Cx), X.prog = P → X.w = w → X.K = K → X.calm = true → ∀ (i : Nat) (pins : List (Addr × Obj)) (s : Shared) (σ : St) (H : Hp) (E : Value → Shared → Prop), Inv X pins σ H s → (∀ b ∈ fp, FpOk X pins H b) → tn i s.heap → J.go i H →
    wpAny (model P w) X.A (pyNext (.ref it)) (fun r s1 => ∃ u, r = some u ∧
      wpAny (model P w) X.A (letOwnedTupleGo tg (.ref it) u) (fun _ s2 => ∃ x H', Inv X pins σ H' s2 ∧ RelV x u ∧ J.yld i H x H' ∧ tn (i + 1) s2.heap ∧ ∀ b ∈ fp, H' b = none) E s1) E s
  done : ∀ (X : Cx), X.prog = P → X.w = w → X.K = K → X.calm = true → ∀ (i : Nat) (pins : List (Addr × Obj)) (s : Shared) (σ : St) (H : Hp) (E : Value → Shared → Prop), Inv X pins σ H s → (∀ b ∈ fp, FpOk X pins H b) → tn i s.heap → J.stop i H →
    wpAny (model P w) X.A (pyNext (.ref it)) (fun r s1 => r = none ∧ Inv X pins σ H s1) E s
  self : ∀ (A : Around) (i : Nat) (s : Shared) (Q : Value → Shared → Prop) (E : Value → Shared → Prop), tn i s.heap → Q (.ref it) s → wpAny (model P w) A (pyIter (.ref it)) Q E s
abbrev TI := St → Hp → (It → Hp → Prop) → Prop
def PIE (X : Cx) (pins : List (Addr × Obj)) (σ : St) (tg : Expr) (R : It → Hp → Prop) (itv : Value) (s2 : Shared) : Prop :=
  ∃ (it : Addr) (fp : List Addr) (tn : Nat → Heap → Prop) (J : It) (H' : Hp), itv = .ref it ∧ Inv X pins σ H' s2 ∧ Turn X.prog X.w X.K tg J fp it tn ∧ tn 0 s2.heap ∧ (∀ b ∈ fp, FpOk X pins H' b) ∧ R J H'
def PI (X : Cx) (tg iter : Expr) (wi : TI) : Prop :=
  ∀ (pins : List (Addr × Obj)) (s : Shared) (σ : St) (H : Hp) (R : It → Hp → Prop), Inv X pins σ H s → wi σ H R →
    wpAny (model X.prog X.w) X.A (eval iter X.env) (fun v s1 => wpAny (model X.prog X.w) X.A (pyIter v) (PIE X pins σ tg R) X.xe s1) X.xe s
theorem go_of {M : Model} {A : Around} {E : Value → Shared → Prop} {s : Shared} {tg : Expr} {it : Addr} {u : Value} {o : Obj} {n : String} {vs : Array Value} {Q : Unit → Shared → Prop} (ho : s.heap.get? it = some o) (hc : o.cls = .type n) (hd : o.data = .fields vs)
    (hn : ["enumerate", "zip", "dict_itemiterator", "dict_reverseitemiterator", "odict_iterator", "itertools.zip_longest", "itertools.pairwise"].contains n = false) (hQ : Q () s) : wpAny M A (letOwnedTupleGo tg (.ref it) u) Q E s := by
  unfold letOwnedTupleGo
  cases tg <;> first
    | exact wpAny_pure hQ
    | (cases u <;> first
        | exact wpAny_pure hQ
        | (refine wpAny_bind (wpAny_load ho ?_)
           rw [hc, hd]
           show wpAny M A (if (["enumerate", "zip", "dict_itemiterator", "dict_reverseitemiterator", "odict_iterator", "itertools.zip_longest", "itertools.pairwise"].contains n && vs[0]? == some (rawInt _)) = true then _ else _) Q E s
           rw [if_neg (by intro h; rw [hn, Bool.false_and] at h; cases h)]
           exact wpAny_pure hQ))
def Itl (K : PySem.W.Frag) (a : Addr) : It :=
  ⟨fun i H => ∃ xs x, SqL K H a xs ∧ xs[i]? = some x, fun i H x H' => H' = H ∧ ∀ xs, SqL K H a xs → xs[i]? = some x, fun i H => ∃ xs, SqL K H a xs ∧ xs.length ≤ i⟩
def Itr (lo : Int) (n : Nat) : It := ⟨fun i _ => i < n, fun i H x H' => H' = H ∧ x = .int (lo + i), fun i _ => n ≤ i⟩
theorem turn_list {P : Program} {w : World} {K : PySem.W.Frag} {tg : Expr} (a it : Addr) : Turn P w K tg (Itl K a) [it] it (fun i h => h.IsListIter it a i) where
  mem := by simp
  obj := fun i h st b hb => by
    have e : b = it := by simpa using hb
    subst e
    obtain ⟨o, e, c, d⟩ := st
    exact ⟨o, e, fun v z => by rw [d] at z; cases z⟩
  keep := fun i h h' st k => st.at fun o e => k it (by simp) o e
  item := by
    intro X hP hw hK hc i pins s σ H E I hf st hg
    subst hP hw hK
    obtain ⟨xs, x, hq, hx⟩ := hg
    obtain ⟨its, rv, p, hz⟩ := I.list hq
    obtain ⟨u, hu, ru⟩ := rv.get hx
    obtain ⟨f0, f1, f2, f3, f4, f5⟩ := hf it (by simp)
    refine wpAny_pyNext_list_item st p.isList (x := u) (by simpa using hu) fun h' st' sb => ?_
    have I1 : Inv X pins σ H { s with heap := h' } := I.turned (t' := s.toks) (fun b o hb e => (sb.2 b hb).trans e) f0 f1 f3 f4 f5
    obtain ⟨o, e, c, d⟩ := id st'
    exact ⟨u, rfl, go_of (s := { s with heap := h' }) e c d (by decide) ⟨x, H, I1, ru, ⟨rfl, fun ys hy => by rw [I.list_inj hy hq]; exact hx⟩, st', fun b hb => (hf b hb).1⟩⟩
  done := by
    intro X hP hw hK hc i pins s σ H E I hf st hg
    subst hP hw hK
    obtain ⟨xs, hq, hx⟩ := hg
    obtain ⟨its, rv, p, hz⟩ := I.list hq
    obtain ⟨f0, f1, f2, f3, f4, f5⟩ := hf it (by simp)
    have hl := rv.length
    exact wpAny_pyNext_list_end (I.ok.hd hc) st p.isList (by simp; omega) fun h' eb => ⟨rfl, I.turned (t' := s.toks) (fun b o hb e => eb b o hb e) f0 f1 f3 f4 f5⟩
  self := fun _ _ _ _ _ st h => wpAny_pyIter_listiter st h
theorem turn_range {P : Program} {w : World} {K : PySem.W.Frag} {tg : Expr} (it : Addr) (lo : Int) (n : Nat) : Turn P w K tg (Itr lo n) [it] it (fun i h => IsRangeIter h it (lo + (i : Nat) * 1) ((n : Int) - (i : Nat)) 1) where
  mem := by simp
  obj := fun i h st b hb => by
    have e : b = it := by simpa using hb
    subst e
    exact ⟨_, st, fun v z => by
      have z' : Data.fields _ = Data.cell v := z
      cases z'⟩
  keep := fun i h h' st k => k it (by simp) _ st
  item := by
    intro X hP hw hK hc i pins s σ H E I hf st hg
    subst hP hw hK
    obtain ⟨f0, f1, f2, f3, f4, f5⟩ := hf it (by simp)
    have W := Walks.range (prog := X.prog) (w := X.w) (I.ok.hd hc) it lo 1 n
    refine W.item i s _ _ hg st fun v h' tk hv st' kk => ?_
    obtain ⟨t, rfl⟩ := hv
    have I1 : Inv X pins σ H { s with heap := h', toks := tk } := I.turned (fun b o hb e => kk b o (by simpa using hb) e) f0 f1 f3 f4 f5
    refine ⟨_, rfl, go_of (s := { s with heap := h', toks := tk }) (n := "range_iterator") st' rfl rfl (by decide) ⟨.int (lo + i), H, I1, ⟨t, ?_⟩, ⟨rfl, rfl⟩, st', fun b hb => (hf b hb).1⟩⟩
    rw [Int.mul_one]
  done := by
    intro X hP hw hK hc i pins s σ H E I hf st hg
    subst hP hw hK
    obtain ⟨f0, f1, f2, f3, f4, f5⟩ := hf it (by simp)
    exact wpAny_pyNext_range_end (I.ok.hd hc) st (by have : n ≤ i := hg; omega) fun h' eb => ⟨rfl, I.turned (t' := s.toks) (fun b o hb e => eb b o hb e) f0 f1 f3 f4 f5⟩
  self := fun _ _ _ _ _ st h => wpAny_pyIter_rangeiter st h
end L2
namespace L2
open PySem PySem.Spec PyProof.Rows
section
variable {X : Cx} {tg : Expr}
def iList (K : PySem.W.Frag) (tl : TE) : TI := fun σ H R => tl σ H fun x H1 => ∃ a, x = .ref a ∧ (∃ xs, SqL K H1 a xs) ∧ R (Itl K a) H1
theorem pi_list {l : Expr} {tl : TE} (hl : PE X l tl) : PI X tg l (iList X.K tl) := by
  intro pins s σ H R I h
  refine thn (hl pins s σ H _ I h) fun v s1 ⟨x, H1, I1, r1, q1⟩ => ?_
  obtain ⟨a, e, ⟨xs, hq⟩, q⟩ := q1
  subst e
  cases r1
  obtain ⟨its, rv, p, hz⟩ := I1.list hq
  refine wpAny_pyIter_list p.isList ?_
  refine ⟨s1.heap.objs.size, [s1.heap.objs.size], _, _, H1, rfl, I1.kept (t' := s1.toks) fun b o e => Heap.get?_push_of_some _ e, turn_list a _, ⟨_, Heap.get?_push_size _ rfl, rfl, rfl⟩, fun b hb => ?_, q⟩
  have e : b = s1.heap.objs.size := by simpa using hb
  subst e
  exact I1.fpOk (Nat.le_refl _) (I1.hok.fresh (Nat.le_refl _))
theorem range_it {pins : List (Addr × Obj)} {σ : St} {H : Hp} {s : Shared} {R : It → Hp → Prop} {E : Value → Shared → Prop} {lo hi : Int} {t u v : Tok} {tk : Nat} (I : Inv X pins σ H s) (h1 : -(2 ^ 62) ≤ lo) (h2 : lo < 2 ^ 62) (h3 : -(2 ^ 62) ≤ hi) (h4 : hi < 2 ^ 62)
    (q : R (Itr lo (hi - lo).toNat) H) : wpAny (model X.prog X.w) X.A (pyIter (.ref s.heap.objs.size)) (PIE X pins σ tg R) E { s with heap := s.heap.push { cls := .type "range", data := .fields #[.int lo t, .int hi u, .int 1 v] }, toks := tk } := by
  refine wpAny_pyIter_range (IsRange.new ..) (small_one h1 h2 h3 h4) ?_
  have I1 : Inv X pins σ H { s with heap := s.heap.push { cls := .type "range", data := .fields #[.int lo t, .int hi u, .int 1 v] }, toks := tk } := I.kept fun b o e => Heap.get?_push_of_some _ e
  refine ⟨(s.heap.push { cls := .type "range", data := .fields #[.int lo t, .int hi u, .int 1 v] }).objs.size, [(s.heap.push { cls := .type "range", data := .fields #[.int lo t, .int hi u, .int 1 v] }).objs.size], _, _, H, rfl,
    I1.kept (t' := tk) fun b o e => Heap.get?_push_of_some _ e, turn_range _ lo (hi - lo).toNat, ?_, fun b hb => ?_, q⟩
  · have e1 : lo + ((0 : Nat) : Int) * 1 = lo := by simp
    have e2 : (((hi - lo).toNat : Nat) : Int) - ((0 : Nat) : Int) = Builtin.Range.rangeSize lo hi 1 := by rw [rangeSize_one]; split <;> omega
    show IsRangeIter _ _ (lo + ((0 : Nat) : Int) * 1) ((((hi - lo).toNat : Nat) : Int) - ((0 : Nat) : Int)) 1
    rw [e1, e2]
    exact Heap.get?_push_size _ rfl
  · have e : b = (s.heap.push { cls := .type "range", data := .fields #[.int lo t, .int hi u, .int 1 v] }).objs.size := by simpa using hb
    subst e
    exact I1.fpOk (Nat.le_refl _) (I1.hok.fresh (Nat.le_refl _))
def iRng1 (ta : TA) : TI := fun σ H R => ta σ H fun vs H1 => ∃ j : Int, vs = [.int j] ∧ -(2 ^ 62) ≤ j ∧ j < 2 ^ 62 ∧ R (Itr 0 j.toNat) H1
def iRng2 (ta : TA) : TI := fun σ H R => ta σ H fun vs H1 => ∃ i j : Int, vs = [.int i, .int j] ∧ (-(2 ^ 62) ≤ i ∧ i < 2 ^ 62 ∧ -(2 ^ 62) ≤ j ∧ j < 2 ^ 62) ∧ R (Itr i (j - i).toNat) H1
theorem pi_range1 {a : Expr} {ta : TA} {p pos : Pos} (hg : Gl X "range") (hm : X.mg "range" = none) (ha : PA X [a] ta) (hs : starEach [a] X.env = [(false, eval a X.env)] := by rfl) : PI X tg (.Call (.Name "range" p) [a] [] pos) (iRng1 ta) := by
  intro pins s σ H R I h
  refine Call_ (ld_blt I hg hm boot_range (PyProof.Rows.callWith_type1 (thn (ha pos pins s σ H _ I h) fun us s1 ⟨vs, H1, I1, r1, q1⟩ => ?_) hs rfl))
  obtain ⟨j, e, q1, q2, q⟩ := q1
  subst e
  cases r1 with
  | cons r rr =>
    cases rr
    obtain ⟨t, rfl⟩ := r
    exact call_range_1 (range_it I1 (by omega) (by omega) q1 q2 (by simpa using q))
theorem pi_range2 {a b : Expr} {ta : TA} {p pos : Pos} (hg : Gl X "range") (hm : X.mg "range" = none) (ha : PA X [a, b] ta) (hs : starEach [a, b] X.env = [(false, eval a X.env), (false, eval b X.env)] := by rfl) (hs2 : starEach [b] X.env = [(false, eval b X.env)] := by rfl) :
    PI X tg (.Call (.Name "range" p) [a, b] [] pos) (iRng2 ta) := by
  intro pins s σ H R I h
  refine Call_ (ld_blt I hg hm boot_range (PyProof.Rows.callWith_type1 (thn (ha pos pins s σ H _ I h) fun us s1 ⟨vs, H1, I1, r1, q1⟩ => ?_) (by rw [hs, hs2]) (by rw [hs2]; rfl)))
  obtain ⟨i, j, e, ⟨q1, q2, q3, q4⟩, q⟩ := q1
  subst e
  cases r1 with
  | cons r rr =>
    cases rr with
    | cons r' rr =>
      cases rr
      obtain ⟨t, rfl⟩ := r
      obtain ⟨t', rfl⟩ := r'
      exact call_range_2 (range_it I1 q1 q2 q3 q4 q)
def tFor (wi : TI) (g : TG) (tb : TS) : TS := fun D σ H => wi σ H fun J H1 => ∃ W : Nat → Nat → St → Hp → Prop, (∃ m, W 0 m σ H1) ∧ ∀ i m σ H, W i m σ H →
  (J.stop i H ∧ D.nx σ H) ∨ (J.go i H ∧ ∃ N : St → Hp → Prop, (∀ σ' H', N σ' H' → ∃ m', m' < m ∧ W (i + 1) m' σ' H') ∧ ∀ x H', J.yld i H x H' → g x σ H' fun σ2 H2 => tb { D with nx := N, ct := N, bk := D.nx } σ2 H2)
def pinsAt (fp : List Addr) (h : Heap) : List (Addr × Obj) := fp.filterMap fun b => (h.get? b).map fun o => (b, o)
theorem mem_pinsAt {fp : List Addr} {h : Heap} {b : Addr} {o : Obj} (hb : b ∈ fp) (e : h.get? b = some o) : (b, o) ∈ pinsAt fp h := List.mem_filterMap.mpr ⟨b, hb, by rw [e]; rfl⟩
theorem of_pinsAt {fp : List Addr} {h : Heap} {p : Addr × Obj} (hp : p ∈ pinsAt fp h) : p.1 ∈ fp ∧ h.get? p.1 = some p.2 := by
  obtain ⟨b, hb, e⟩ := List.mem_filterMap.mp hp
  cases q : h.get? b with
  | none => rw [q] at e; cases e
  | some o =>
    rw [q] at e
    have e' : (b, o) = p := Option.some.inj e
    subst e'
    exact ⟨hb, q⟩
theorem Inv.pinned {pins : List (Addr × Obj)} {σ : St} {H : Hp} {s : Shared} {fp : List Addr} (I : Inv X pins σ H s) (hf : ∀ b ∈ fp, FpOk X pins H b) (ho : ∀ b ∈ fp, ∃ o, s.heap.get? b = some o ∧ ∀ v, o.data ≠ .cell v) : Inv X (pins ++ pinsAt fp s.heap) σ H s :=
  I.pins_of fun p hp => (List.mem_append.mp hp).elim (fun z => I.pin p (List.mem_append_right _ z)) fun z => by
    obtain ⟨hb, e⟩ := of_pinsAt z
    obtain ⟨f0, f1, f2, _⟩ := hf p.1 hb
    obtain ⟨o, e', d⟩ := ho p.1 hb
    rw [e] at e'; cases e'
    exact ⟨e, f0, f1, f2, d⟩
theorem Inv.unpinned {pins pl : List (Addr × Obj)} {σ : St} {H : Hp} {s : Shared} (I : Inv X (pins ++ pl) σ H s) : Inv X pins σ H s := I.pins_of fun p hp => I.pin p (List.mem_append_right _ (List.mem_append_left _ hp))
theorem ps_for {iter : Expr} {body : List Stmt} {wi : TI} {g : TG} {tb : TS} {pos : Pos} (hp : PassesOwn (model X.prog X.w) X.A X.env X.xe) (hc : X.calm = true) (hi : PI X tg iter wi) (hg : PG X tg g) (hb : PSs X body tb)
    (hs : ∀ x, foldedSetIterable iter X.env x = pure x := by intro _; rfl) : PS X (.For tg iter body [] pos) (tFor wi g tb) := by
  intro pins s σ H D I h
  refine wpAny_For (thn (hi pins s σ H _ I h) fun v s1 h1 => thn h1 fun itv s2 h2 => ?_) hs
  obtain ⟨it, fp, tn, J, H2, e, I2, T, st2, f2, W, ⟨m0, w0⟩, turn⟩ := h2
  subst e
  -- what stays true of the iterator's objects through the loop
  have stat : ∀ {H' : Hp}, (∀ b ∈ fp, H' b = none) → ∀ b ∈ fp, FpOk X pins H' b := fun hn b hb => ⟨hn b hb, (f2 b hb).2⟩
  refine codeAny_forLoop_any (fun n s' => ∃ i σ' H', Inv X pins σ' H' s' ∧ tn i s'.heap ∧ (∀ b ∈ fp, H' b = none) ∧ W i n σ' H') ?_ m0 ⟨0, σ, H2, I2, st2, fun b hb => (f2 b hb).1, w0⟩
  rintro n s3 ⟨i, σ3, H3, I3, st3, fr3, w3⟩
  rcases turn i n σ3 H3 w3 with ⟨stop, qn⟩ | ⟨go, N, hN, step⟩
  · refine wpAny_passesOwn hp (thn (T.done X rfl rfl rfl hc i pins s3 σ3 H3 X.xe I3 (stat fr3) st3 stop) fun r s4 ⟨hr, I4⟩ => ?_)
    subst hr
    exact wpAny_execs_nil ⟨σ3, H3, I4, qn⟩
  · refine wpAny_passesOwn hp (thn (T.item X rfl rfl rfl hc i pins s3 σ3 H3 X.xe I3 (stat fr3) st3 go) fun r s4 ⟨u, hr, h4⟩ => ?_)
    subst hr
    refine wpAny_passesOwn hp (thn h4 fun _ s5 ⟨x, H5, I5, r5, y5, st5, fr5⟩ => ?_)
    have I5' := I5.pinned (stat fr5) (T.obj _ _ st5)
    refine wpAny_passesOwn hp (thn (hg _ s5 σ3 H5 x u _ I5' r5 (step x H5 y5)) fun _ s6 ⟨σ6, H6, I6, q6⟩ => ?_)
    refine wpAny_passesOwn hp (thn (hb _ s6 σ6 H6 _ I6 q6) fun f s7 q7 => ?_)
    have again : ∀ {σ7 : St} {H7 : Hp}, Inv X (pins ++ pinsAt fp s5.heap) σ7 H7 s7 → N σ7 H7 → ∃ m, m < n ∧ ∃ i σ' H', Inv X pins σ' H' s7 ∧ tn i s7.heap ∧ (∀ b ∈ fp, H' b = none) ∧ W i m σ' H' := fun {σ7 H7} I7 n7 => by
      obtain ⟨m', hm, w7⟩ := hN σ7 H7 n7
      refine ⟨m', hm, i + 1, σ7, H7, I7.unpinned, T.keep _ _ _ st5 fun b hb o e => (I7.pin (b, o) (List.mem_append_right _ (List.mem_append_right _ (mem_pinsAt hb e)))).1, fun b hb => ?_, w7⟩
      obtain ⟨o, e, d⟩ := T.obj _ _ st5 b hb
      exact (I7.pin (b, o) (List.mem_append_right _ (List.mem_append_right _ (mem_pinsAt hb e)))).2.1
    cases f with
    | next => obtain ⟨σ7, H7, I7, n7⟩ := q7; exact again I7 n7
    | cont => obtain ⟨σ7, H7, I7, n7⟩ := q7; exact again I7 n7
    | brk => obtain ⟨σ7, H7, I7, q7⟩ := q7; exact ⟨σ7, H7, I7.unpinned, q7⟩
    | ret v => obtain ⟨x7, σ7, H7, I7, r7, q7⟩ := q7; exact ⟨x7, σ7, H7, I7.unpinned, r7, q7⟩
end
theorem for_list {K : PySem.W.Frag} {a : Addr} {xs : List V} {g : TG} {tb : TS} {D : Ends} {σ : St} {H : Hp} (Pv : Nat → St → Hp → Prop) (h0 : Pv 0 σ H) (hl : ∀ i σ H, i ≤ xs.length → Pv i σ H → SqL K H a xs)
    (hs : ∀ i x σ H, xs[i]? = some x → Pv i σ H → g x σ H fun σ2 H2 => tb { D with nx := Pv (i + 1), ct := Pv (i + 1), bk := D.nx } σ2 H2) (hd : ∀ σ H, Pv xs.length σ H → D.nx σ H) :
    ∃ W : Nat → Nat → St → Hp → Prop, (∃ m, W 0 m σ H) ∧ ∀ i m σ H, W i m σ H →
      ((Itl K a).stop i H ∧ D.nx σ H) ∨ ((Itl K a).go i H ∧ ∃ N : St → Hp → Prop, (∀ σ' H', N σ' H' → ∃ m', m' < m ∧ W (i + 1) m' σ' H') ∧ ∀ x H', (Itl K a).yld i H x H' → g x σ H' fun σ2 H2 => tb { D with nx := N, ct := N, bk := D.nx } σ2 H2) := by
  refine ⟨fun i m σ H => m = xs.length - i ∧ i ≤ xs.length ∧ Pv i σ H, ⟨xs.length, by simp, Nat.zero_le _, h0⟩, ?_⟩
  rintro i m σ H ⟨rfl, hi, p⟩
  have q := hl i σ H hi p
  by_cases hlt : i < xs.length
  · refine .inr ⟨⟨xs, xs[i], q, by simp [hlt]⟩, Pv (i + 1), fun σ' H' p' => ⟨xs.length - (i + 1), by omega, rfl, hlt, p'⟩, fun x H' y => ?_⟩
    obtain ⟨e, y⟩ := y
    subst e
    exact hs i x σ _ (y xs q) p
  · have e : i = xs.length := by omega
    subst e
    exact .inl ⟨⟨xs, q, Nat.le_refl _⟩, hd σ H p⟩
theorem for_range {lo : Int} {n : Nat} {g : TG} {tb : TS} {D : Ends} {σ : St} {H : Hp} (Pv : Nat → St → Hp → Prop) (h0 : Pv 0 σ H)
    (hs : ∀ i σ H, i < n → Pv i σ H → g (.int (lo + i)) σ H fun σ2 H2 => tb { D with nx := Pv (i + 1), ct := Pv (i + 1), bk := D.nx } σ2 H2) (hd : ∀ σ H, Pv n σ H → D.nx σ H) :
    ∃ W : Nat → Nat → St → Hp → Prop, (∃ m, W 0 m σ H) ∧ ∀ i m σ H, W i m σ H →
      ((Itr lo n).stop i H ∧ D.nx σ H) ∨ ((Itr lo n).go i H ∧ ∃ N : St → Hp → Prop, (∀ σ' H', N σ' H' → ∃ m', m' < m ∧ W (i + 1) m' σ' H') ∧ ∀ x H', (Itr lo n).yld i H x H' → g x σ H' fun σ2 H2 => tb { D with nx := N, ct := N, bk := D.nx } σ2 H2) := by
  refine ⟨fun i m σ H => m = n - i ∧ i ≤ n ∧ Pv i σ H, ⟨n, by simp, Nat.zero_le _, h0⟩, ?_⟩
  rintro i m σ H ⟨rfl, hi, p⟩
  by_cases hlt : i < n
  · refine .inr ⟨hlt, Pv (i + 1), fun σ' H' p' => ⟨n - (i + 1), by omega, rfl, hlt, p'⟩, fun x H' y => ?_⟩
    obtain ⟨e, y⟩ := y
    subst e y
    exact hs i σ _ hlt p
  · have e : i = n := by omega
    subst e
    exact .inl ⟨Nat.le_refl _, hd σ H p⟩
end L2
namespace L2
open PySem PySem.Spec PyProof.Rows
abbrev R2 := V → V → Hp → VK → Prop
def OpR (X : Cx) (f : Value → Value → Sem Value) (r : R2) : Prop :=
  ∀ (pins : List (Addr × Obj)) (s : Shared) (σ : St) (H : Hp) (x y : V) (v u : Value) (Q : VK), Inv X pins σ H s → RelV x v → RelV y u → r x y H Q →
    wpAny (model X.prog X.w) X.A (f v u) (EP X pins σ Q) X.xe s
def UnR (X : Cx) (f : Value → Sem Value) (r : V → Hp → VK → Prop) : Prop :=
  ∀ (pins : List (Addr × Obj)) (s : Shared) (σ : St) (H : Hp) (x : V) (v : Value) (Q : VK), Inv X pins σ H s → RelV x v → r x H Q →
    wpAny (model X.prog X.w) X.A (f v) (EP X pins σ Q) X.xe s
def CallR (X : Cx) (f : Value) (r : List V → Hp → VK → Prop) : Prop :=
  ∀ (pins : List (Addr × Obj)) (s : Shared) (σ : St) (H : Hp) (xs : List V) (us : List Value) (Q : VK), Inv X pins σ H s → Vals xs us → r xs H Q →
    wpAny (model X.prog X.w) X.A (call f us) (EP X pins σ Q) X.xe s
def tOp (r : R2) (ta tb : TE) : TE := fun σ H Q => ta σ H fun x H1 => tb σ H1 fun y H2 => r x y H2 Q
def tUn (r : V → Hp → VK → Prop) (ta : TE) : TE := fun σ H Q => ta σ H fun x H1 => r x H1 Q
def rI (C : Int → Int → Prop) (g : Int → Int → V) : R2 := fun x y H Q => ∃ i j, x = .int i ∧ y = .int j ∧ C i j ∧ Q (g i j) H
def rI0 (g : Int → Int → V) : R2 := fun x y H Q => ∃ i j, x = .int i ∧ y = .int j ∧ Q (g i j) H
def rU (g : Int → V) : V → Hp → VK → Prop := fun x H Q => ∃ i, x = .int i ∧ Q (g i) H
section
variable {X : Cx} {a b c : Expr} {ta tb tc : TE} {pos : Pos}
theorem binT (ha : PE X a ta) (hb : PE X b tb) {pins : List (Addr × Obj)} {s : Shared} {σ : St} {H : Hp} {R : V → V → Hp → Prop} (I : Inv X pins σ H s)
    (h : ta σ H fun x H1 => tb σ H1 fun y H2 => R x y H2) {Q : Value → Shared → Prop} {f : Value → Value → Sem Value}
    (hf : ∀ v u s2 x y H2, Inv X pins σ H2 s2 → RelV x v → RelV y u → R x y H2 → wpAny (model X.prog X.w) X.A (f v u) Q X.xe s2) :
    wpAny (model X.prog X.w) X.A (eval a X.env) (fun v s₁ => wpAny (model X.prog X.w) X.A (eval b X.env) (fun u s₂ => wpAny (model X.prog X.w) X.A (f v u) Q X.xe s₂) X.xe s₁) X.xe s := by
  refine thn (ha pins s σ H _ I h) fun v s1 ⟨x, H1, I1, r1, q1⟩ => ?_
  refine thn (hb pins s1 σ H1 _ I1 q1) fun u s2 ⟨y, H2, I2, r2, q2⟩ => ?_
  exact hf v u s2 x y H2 I2 r1 r2 q2
theorem pe_op {op : Operator} {r : R2} (ho : OpR X (binaryOp op) r) (ha : PE X a ta) (hb : PE X b tb) : PE X (.BinOp a op b pos) (tOp r ta tb) := by
  intro pins s σ H Q I h
  exact wpAny_BinOp (binT ha hb I h fun v u s2 x y H2 I2 rx ry q => ho pins s2 σ H2 x y v u Q I2 rx ry q)
theorem pe_un {op : UnaryOp} {r : V → Hp → VK → Prop} (ho : UnR X (unaryOp op) r) (ha : PE X a ta) : PE X (.UnaryOp op a pos) (tUn r ta) := by
  intro pins s σ H Q I h
  exact UnaryOp_ (thn (ha pins s σ H _ I h) fun v s1 ⟨x, H1, I1, r1, q1⟩ => ho pins s1 σ H1 x v Q I1 r1 q1)
theorem opI {f : Value → Value → Sem Value} {C : Int → Int → Prop} {g : Int → Int → Int}
    (rule : ∀ (i j : Int) (t u : Tok) (s : Shared) (Q : Value → Shared → Prop) (E : Value → Shared → Prop), C i j → Q (.int (g i j) s.toks) { s with toks := s.toks + 1 } → wpAny (model X.prog X.w) X.A (f (.int i t) (.int j u)) Q E s) :
    OpR X f (rI C fun i j => .int (g i j)) := by
  intro pins s σ H x y v u Q I rx ry h
  obtain ⟨i, j, rfl, rfl, hc, q⟩ := h
  obtain ⟨t, rfl⟩ := rx
  obtain ⟨t', rfl⟩ := ry
  exact rule i j t t' s _ _ hc ⟨.int (g i j), H, I.tok _, ⟨_, rfl⟩, q⟩
theorem opI0 {f : Value → Value → Sem Value} {g : Int → Int → Int}
    (rule : ∀ (i j : Int) (t u : Tok) (s : Shared) (Q : Value → Shared → Prop) (E : Value → Shared → Prop), Q (.int (g i j) s.toks) { s with toks := s.toks + 1 } → wpAny (model X.prog X.w) X.A (f (.int i t) (.int j u)) Q E s) :
    OpR X f (rI0 fun i j => .int (g i j)) := by
  intro pins s σ H x y v u Q I rx ry h
  obtain ⟨i, j, rfl, rfl, q⟩ := h
  obtain ⟨t, rfl⟩ := rx
  obtain ⟨t', rfl⟩ := ry
  exact rule i j t t' s _ _ ⟨.int (g i j), H, I.tok _, ⟨_, rfl⟩, q⟩
theorem opB0 {f : Value → Value → Sem Value} {g : Int → Int → Bool}
    (rule : ∀ (i j : Int) (t u : Tok) (s : Shared) (Q : Value → Shared → Prop) (E : Value → Shared → Prop), Q (.bool (g i j)) s → wpAny (model X.prog X.w) X.A (f (.int i t) (.int j u)) Q E s) :
    OpR X f (rI0 fun i j => .bl (g i j)) := by
  intro pins s σ H x y v u Q I rx ry h
  obtain ⟨i, j, rfl, rfl, q⟩ := h
  obtain ⟨t, rfl⟩ := rx
  obtain ⟨t', rfl⟩ := ry
  exact rule i j t t' s _ _ ⟨.bl (g i j), H, I, rfl, q⟩
def CDiv (i j : Int) : Prop := 0 < j ∧ j < 1073741824
def CMul (i j : Int) : Prop := (-(2 ^ 64) < i ∧ i < 2 ^ 64) ∨ (-(2 ^ 64) < j ∧ j < 2 ^ 64)
theorem CMul.ok {i j : Int} (h : CMul i j) : IntMulOk i j := by
  rcases h with ⟨h1, h2⟩ | ⟨h1, h2⟩
  · exact .of_left (intBits_le_64 h1 h2)
  · exact .of_right (intBits_le_64 h1 h2)
theorem op_add : OpR X (binaryOp .Add) (rI0 fun i j => .int (i + j)) := opI0 fun _ _ _ _ _ _ _ q => add_int q
theorem op_sub : OpR X (binaryOp .Sub) (rI0 fun i j => .int (i - j)) := opI0 fun _ _ _ _ _ _ _ q => sub_int q
theorem op_mul : OpR X (binaryOp .Mult) (rI CMul fun i j => .int (i * j)) := opI fun _ _ _ _ _ _ _ hc q => mul_int q hc.ok
theorem op_fdiv : OpR X (binaryOp .FloorDiv) (rI CDiv fun i j => .int (i / j)) := opI fun i j _ _ _ _ _ hc q => by
  have h1 : (0 : Int) < j := hc.1
  have h2 : j < 1073741824 := hc.2
  exact floordiv_int (by omega) (by rw [Int.fdiv_eq_ediv_of_nonneg i (by omega)]; exact q) (.inl (PyProof.noPylong_small (by omega)))
theorem op_mod : OpR X (binaryOp .Mod) (rI (fun _ j => 0 < j) fun i j => .int (i % j)) := opI fun i j _ _ _ _ _ hc q => by
  have h1 : (0 : Int) < j := hc
  exact mod_int' (by omega) (by rw [Int.fmod_eq_emod_of_nonneg i (by omega)]; exact q)
theorem unI {f : Value → Sem Value} {g : Int → Int}
    (rule : ∀ (i : Int) (t : Tok) (s : Shared) (Q : Value → Shared → Prop) (E : Value → Shared → Prop), Q (.int (g i) s.toks) { s with toks := s.toks + 1 } → wpAny (model X.prog X.w) X.A (f (.int i t)) Q E s) :
    UnR X f (rU fun i => .int (g i)) := by
  intro pins s σ H x v Q I rx h
  obtain ⟨i, rfl, q⟩ := h
  obtain ⟨t, rfl⟩ := rx
  exact rule i t s _ _ ⟨.int (g i), H, I.tok _, ⟨_, rfl⟩, q⟩
theorem un_neg : UnR X (unaryOp .USub) (rU fun i => .int (-i)) := unI fun _ _ _ _ _ q => neg_int q
end
def scal : V → V → Bool
  | .non, .non => true | .non, .int _ => true | .int _, .non => true | .non, .bl _ => true | .bl _, .non => true | .non, .str _ => true | .str _, .non => true
  | .int _, .int _ => true | .bl _, .bl _ => true | .str _, .str _ => true | .byt _, .byt _ => true
  | .int _, .str _ => true | .str _, .int _ => true | .bl _, .str _ => true | .str _, .bl _ => true
  | _, _ => false
def rEq : R2 := fun x y H Q => scal x y = true ∧ Q (.bl (decide (x = y))) H
def rNe : R2 := fun x y H Q => scal x y = true ∧ Q (.bl (!decide (x = y))) H
theorem dec_int {i j : Int} : decide (V.int i = V.int j) = (i == j) := by
  rw [Bool.eq_iff_iff]
  simp
theorem dec_bl {i j : Bool} : decide (V.bl i = V.bl j) = (i == j) := by
  rw [Bool.eq_iff_iff]
  simp
theorem dec_str {i j : Str} : decide (V.str i = V.str j) = (i == j) := by
  rw [Bool.eq_iff_iff]
  simp
theorem dec_byt {i j : Array UInt8} : decide (V.byt i = V.byt j) = (i.toList == j.toList) := by
  rw [Bool.eq_iff_iff]
  cases i
  cases j
  simp
section
variable {X : Cx} {a b c : Expr} {ta tb tc : TE} {pos : Pos}
theorem fin_bl {pins : List (Addr × Obj)} {σ : St} {H : Hp} {s : Shared} {Q : VK} {k k' : Bool} (I : Inv X pins σ H s) (q : Q (.bl k) H) (e : k = k') : EP X pins σ Q (.bool k') s := by
  subst e
  exact ⟨.bl k, H, I, rfl, q⟩
theorem op_eq : OpR X (compareOp .Eq) rEq := by
  intro pins s σ H x y v u Q I rx ry h
  obtain ⟨hs, q⟩ := h
  cases x with
  | non =>
    cases rx
    cases y with
    | non => cases ry; exact PySem.EqNone.eq_none_none (fin_bl I q (by simp))
    | bl j => cases ry; exact PySem.EqNone.eq_none_bool (fin_bl I q (by simp))
    | int j => obtain ⟨t', rfl⟩ := ry; exact PySem.EqNone.eq_none_int (fin_bl I q (by simp))
    | str j => obtain ⟨t', rfl⟩ := ry; exact PySem.EqNone.eq_none_str (fin_bl I q (by simp))
    | _ => exact absurd (show false = true from hs) Bool.false_ne_true
  | bl i =>
    cases rx
    cases y with
    | non => cases ry; exact PySem.EqNone.eq_bool_none (fin_bl I q (by simp))
    | bl j => cases ry; exact eq_bool (fin_bl I q dec_bl)
    | str j => obtain ⟨t', rfl⟩ := ry; exact PySem.EqMixed.eq_bool_str (fin_bl I q (by simp))
    | _ => exact absurd (show false = true from hs) Bool.false_ne_true
  | int i =>
    obtain ⟨t, rfl⟩ := rx
    cases y with
    | non => cases ry; exact PySem.EqNone.eq_int_none (fin_bl I q (by simp))
    | int j => obtain ⟨t', rfl⟩ := ry; exact eq_int (fin_bl I q dec_int)
    | str j => obtain ⟨t', rfl⟩ := ry; exact PySem.EqMixed.eq_int_str (fin_bl I q (by simp))
    | _ => exact absurd (show false = true from hs) Bool.false_ne_true
  | str i =>
    obtain ⟨t, rfl⟩ := rx
    cases y with
    | non => cases ry; exact PySem.EqNone.eq_str_none (fin_bl I q (by simp))
    | bl j => cases ry; exact PySem.EqMixed.eq_str_bool (fin_bl I q (by simp))
    | int j => obtain ⟨t', rfl⟩ := ry; exact PySem.EqMixed.eq_str_int (fin_bl I q (by simp))
    | str j => obtain ⟨t', rfl⟩ := ry; exact eq_str (fin_bl I q dec_str)
    | _ => exact absurd (show false = true from hs) Bool.false_ne_true
  | byt i =>
    obtain ⟨t, rfl⟩ := rx
    cases y with
    | byt j => obtain ⟨t', rfl⟩ := ry; exact PySem.W.eq_bytes (fin_bl I q dec_byt)
    | _ => exact absurd (show false = true from hs) Bool.false_ne_true
  | _ => cases y <;> exact absurd (show false = true from hs) Bool.false_ne_true
theorem op_ne : OpR X (compareOp .NotEq) rNe := by
  intro pins s σ H x y v u Q I rx ry h
  obtain ⟨hs, q⟩ := h
  cases x with
  | non =>
    cases rx
    cases y with
    | non => cases ry; exact PySem.EqNone.ne_none_none (fin_bl I q (by simp))
    | bl j => cases ry; exact PySem.EqNone.ne_none_bool (fin_bl I q (by simp))
    | int j => obtain ⟨t', rfl⟩ := ry; exact PySem.EqNone.ne_none_int (fin_bl I q (by simp))
    | str j => obtain ⟨t', rfl⟩ := ry; exact PySem.EqNone.ne_none_str (fin_bl I q (by simp))
    | _ => exact absurd (show false = true from hs) Bool.false_ne_true
  | bl i =>
    cases rx
    cases y with
    | non => cases ry; exact PySem.EqNone.ne_bool_none (fin_bl I q (by simp))
    | bl j => cases ry; exact ne_bool (fin_bl I q (congrArg not dec_bl))
    | str j => obtain ⟨t', rfl⟩ := ry; exact PySem.EqMixed.ne_bool_str (fin_bl I q (by simp))
    | _ => exact absurd (show false = true from hs) Bool.false_ne_true
  | int i =>
    obtain ⟨t, rfl⟩ := rx
    cases y with
    | non => cases ry; exact PySem.EqNone.ne_int_none (fin_bl I q (by simp))
    | int j => obtain ⟨t', rfl⟩ := ry; exact ne_int (fin_bl I q (congrArg not dec_int))
    | str j => obtain ⟨t', rfl⟩ := ry; exact PySem.EqMixed.ne_int_str (fin_bl I q (by simp))
    | _ => exact absurd (show false = true from hs) Bool.false_ne_true
  | str i =>
    obtain ⟨t, rfl⟩ := rx
    cases y with
    | non => cases ry; exact PySem.EqNone.ne_str_none (fin_bl I q (by simp))
    | bl j => cases ry; exact PySem.EqMixed.ne_str_bool (fin_bl I q (by simp))
    | int j => obtain ⟨t', rfl⟩ := ry; exact PySem.EqMixed.ne_str_int (fin_bl I q (by simp))
    | str j => obtain ⟨t', rfl⟩ := ry; exact ne_str (fin_bl I q (congrArg not dec_str))
    | _ => exact absurd (show false = true from hs) Bool.false_ne_true
  | byt i =>
    obtain ⟨t, rfl⟩ := rx
    cases y with
    | byt j => obtain ⟨t', rfl⟩ := ry; exact PySem.W.ne_bytes (fin_bl I q (congrArg not dec_byt))
    | _ => exact absurd (show false = true from hs) Bool.false_ne_true
  | _ => cases y <;> exact absurd (show false = true from hs) Bool.false_ne_true
theorem op_lt : OpR X (compareOp .Lt) (rI0 fun i j => .bl (decide (i < j))) := opB0 fun _ _ _ _ _ _ _ q => lt_int q
theorem op_le : OpR X (compareOp .LtE) (rI0 fun i j => .bl (decide (i ≤ j))) := opB0 fun _ _ _ _ _ _ _ q => le_int q
theorem op_gt : OpR X (compareOp .Gt) (rI0 fun i j => .bl (decide (j < i))) := opB0 fun _ _ _ _ _ _ _ q => gt_int q
theorem op_ge : OpR X (compareOp .GtE) (rI0 fun i j => .bl (decide (j ≤ i))) := opB0 fun _ _ _ _ _ _ _ q => ge_int q
theorem op_isN : OpR X (compareOp .Is) (fun x y H Q => y = .non ∧ Q (.bl (decide (x = .non))) H) := by
  intro pins s σ H x y v u Q I rx ry h
  obtain ⟨rfl, q⟩ := h
  cases ry
  refine is_none_gen (fin_bl I q ?_)
  cases x <;> first
    | (cases rx; rfl)
    | (obtain ⟨t, rfl⟩ := rx; rfl)
theorem op_notN : OpR X (compareOp .IsNot) (fun x y H Q => y = .non ∧ Q (.bl (!decide (x = .non))) H) := by
  intro pins s σ H x y v u Q I rx ry h
  obtain ⟨rfl, q⟩ := h
  cases ry
  refine isnot_none_gen (fin_bl I q ?_)
  cases x <;> first
    | (cases rx; rfl)
    | (obtain ⟨t, rfl⟩ := rx; rfl)
theorem nomark (b : Expr) {op : CmpOp} (h : op ≠ .In := by decide) (h2 : op ≠ .NotIn := by decide) : behindInMarks op b = false := by
  have e1 : (op == CmpOp.In) = false := by cases op <;> first | rfl | exact absurd rfl h
  have e2 : (op == CmpOp.NotIn) = false := by cases op <;> first | rfl | exact absurd rfl h2
  cases b <;> simp [behindInMarks, e1, e2]
theorem pe_cmpR {op : CmpOp} {r : R2} (ho : OpR X (compareOp op) r) (ha : PE X a ta) (hb : PE X b tb) (hm : behindInMarks op b = false) : PE X (.Compare a [op] [b] pos) (tOp r ta tb) := by
  intro pins s σ H Q I h
  exact wpAny_Compare1 (binT ha hb I h fun v u s2 x y H2 I2 rx ry q => ho pins s2 σ H2 x y v u Q I2 rx ry q) hm
def tTest (t : TE) : TT := fun σ H Q => t σ H fun x H' => ∃ k, x = .bl k ∧ Q k H'
theorem pt_cmpR {op : CmpOp} {r : R2} (ho : OpR X (compareOp op) r) (ha : PE X a ta) (hb : PE X b tb) (hm : behindInMarks op b = false) : PT X (.Compare a [op] [b] pos) (tTest (tOp r ta tb)) := by
  intro pins s σ H Q I h
  refine wpAny_isTrue_Compare1 (thn (ha pins s σ H _ I h) fun v s1 ⟨x, H1, I1, r1, q1⟩ => thn (hb pins s1 σ H1 _ I1 q1) fun u s2 ⟨y, H2, I2, r2, q2⟩ =>
    thn (ho pins s2 σ H2 x y v u _ I2 r1 r2 q2) fun c s3 ⟨z, H3, I3, r3, k, e, q3⟩ => ?_) hm
  subst e
  cases r3
  exact wpAny_truthy_bool ⟨H3, I3, q3⟩
def tChain (r r' : R2) (ta tb tc : TE) : TE := fun σ H Q => ta σ H fun x H1 => tb σ H1 fun y H2 => r x y H2 fun z H3 => ∃ k, z = .bl k ∧
  (if k = true then tc σ H3 fun w' H4 => r' y w' H4 Q else Q (.bl false) H3)
theorem pe_chain {op op' : CmpOp} {r r' : R2} (ho : OpR X (compareOp op) r) (ho' : OpR X (compareOp op') r') (ha : PE X a ta) (hb : PE X b tb) (hc : PE X c tc)
    (hm : lastMarks [op, op'] [b, c] = false := by with_unfolding_all rfl) : PE X (.Compare a [op, op'] [b, c] pos) (tChain r r' ta tb tc) := by
  intro pins s σ H Q I h
  refine Compare_chain (thn (ha pins s σ H _ I h) fun v s1 ⟨x, H1, I1, r1, q1⟩ => chain_link (thn (hb pins s1 σ H1 _ I1 q1) fun u s2 ⟨y, H2, I2, r2, q2⟩ =>
    thn (ho pins s2 σ H2 x y v u _ I2 r1 r2 q2) fun d s3 ⟨z, H3, I3, r3, k, e, q3⟩ => ?_)) hm
  subst e
  cases r3
  refine wpAny_truthy_bool ?_
  cases k with
  | false => exact ite_ff ⟨.bl false, H3, I3, rfl, q3⟩
  | true => exact ite_tt (chain_last (thn (hc pins s3 σ H3 _ I3 q3) fun w' s4 ⟨z', H4, I4, r4, q4⟩ => ho' pins s4 σ H4 y z' u w' Q I4 r2 r4 q4))
theorem pt_chain {op op' : CmpOp} {r r' : R2} (ho : OpR X (compareOp op) r) (ho' : OpR X (compareOp op') r') (ha : PE X a ta) (hb : PE X b tb) (hc : PE X c tc)
    (hm : lastMarks [op, op'] [b, c] = false := by with_unfolding_all rfl) : PT X (.Compare a [op, op'] [b, c] pos) (tTest (tChain r r' ta tb tc)) := by
  intro pins s σ H Q I h
  refine isTrue_chain (thn (ha pins s σ H _ I h) fun v s1 ⟨x, H1, I1, r1, q1⟩ => test_link (thn (hb pins s1 σ H1 _ I1 q1) fun u s2 ⟨y, H2, I2, r2, q2⟩ =>
    thn (ho pins s2 σ H2 x y v u _ I2 r1 r2 q2) fun d s3 ⟨z, H3, I3, r3, k, e, q3⟩ => ?_)) hm
  subst e
  cases r3
  refine wpAny_truthy_bool ?_
  cases k with
  | false =>
    obtain ⟨k', e', q'⟩ := q3
    cases e'
    exact ite_ff ⟨H3, I3, q'⟩
  | true =>
    refine ite_tt (test_last (thn (hc pins s3 σ H3 _ I3 q3) fun w' s4 ⟨z', H4, I4, r4, q4⟩ => thn (ho' pins s4 σ H4 y z' u w' _ I4 r2 r4 q4) fun d' s5 ⟨z2, H5, I5, r5, k2, e2, q5⟩ => ?_))
    subst e2
    cases r5
    exact wpAny_truthy_bool ⟨H5, I5, q5⟩
theorem line63 : (sizeLine : Nat) < 2 ^ 63 := by rw [sizeLine_eq]; decide
theorem vals1 {x : V} {us : List Value} (r : Vals [x] us) : ∃ u, us = [u] ∧ RelV x u := by
  cases r with
  | cons r1 r2 => cases r2; exact ⟨_, rfl, r1⟩
theorem vals2 {x y : V} {us : List Value} (r : Vals [x, y] us) : ∃ u w', us = [u, w'] ∧ RelV x u ∧ RelV y w' := by
  cases r with
  | cons r1 r2 =>
    cases r2 with
    | cons r3 r4 => cases r4; exact ⟨_, _, rfl, r1, r3⟩
theorem call_min2 (hc : X.calm = true) : CallR X (.builtin "min") (fun xs H Q => ∃ i j, xs = [.int i, .int j] ∧ Q (.int (if j < i then j else i)) H) := by
  intro pins s σ H xs us Q I r h
  obtain ⟨i, j, rfl, q⟩ := h
  obtain ⟨u, w', rfl, ⟨t, rfl⟩, ⟨t', rfl⟩⟩ := vals2 r
  refine min_two_ints (I.ok.hd hc) fun h' tk k => ⟨_, H, I.kept k, ?_, q⟩
  by_cases hj : j < i
  · rw [if_pos hj, if_pos hj]; exact ⟨_, rfl⟩
  · rw [if_neg hj, if_neg hj]; exact ⟨_, rfl⟩
end
end L2
namespace L2
open PySem PySem.Spec PyProof.Rows
structure ObjM (h : Heap) (x dx C : Addr) (mA : Str → Option Value) : Prop where
  obj : h.get? x = some (PySem.W.instObj C dx)
  ns : h.Ns1 dx mA
  ne : dx ≠ x
theorem lookIn_ns {h : Heap} {dx : Addr} {mA : Str → Option Value} (n : h.Ns1 dx mA) : ∃ od, h.get? dx = some od ∧ ∀ name, PySem.W.lookIn name od = some (mA name) := by
  obtain ⟨o, es, ep, ho, hd, hk, _, hm⟩ := n
  refine ⟨o, ho, fun name => ?_⟩
  have e := hm name
  unfold nsFind findBy at e
  rw [← Array.find?_toList] at e
  unfold PySem.W.lookIn
  rw [hd]
  dsimp only
  split
  · rename_i y q
    rw [q] at e
    exact congrArg some e
  · rename_i q
    rw [q] at e
    have a : es.toList.any (·.refKey) = false := by
      rw [List.any_eq_false]
      intro y hy
      obtain ⟨z, t, hkey⟩ := hk y (Array.mem_toList_iff.mp hy)
      simp [DictEntry.refKey, hkey]
    have a' : ¬ es.toList.any (·.refKey) = true := by rw [a]; exact Bool.false_ne_true
    rw [if_neg a']
    exact congrArg some e
theorem ObjM.look {h : Heap} {x dx C : Addr} {mA : Str → Option Value} (I : ObjM h x dx C mA) : ∃ od, PySem.W.InstAt h x (PySem.W.instObj C dx) C (some od) ∧ ∀ name, PySem.W.lookIn name od = some (mA name) :=
  let ⟨od, ho, hl⟩ := lookIn_ns I.ns
  ⟨od, ⟨I.obj, rfl, rfl, ho⟩, hl⟩
section
variable {prog : Program} {w : World} {A : Around} {E : Value → Shared → Prop} {s : Shared} {K : PySem.W.Frag} {x dx C f : Addr} {mA : Str → Option Value} {name : Str} {v : Value}
theorem get_map {expr : Bool} {Q : Value → Shared → Prop} (X : K.In s.heap) (I : ObjM s.heap x dx C mA) (hg : PySem.W.plainGet K C name = true) (hh : PySem.W.hasDictIn K C = true)
    (ha : PySem.W.findIn K (.ref C) name = some none) (hv : mA name = some v) (hv' : PySem.W.handedIn v = true) (h : Q v { s with toks := s.toks + 1 }) :
    wpAny (model prog w) A (getAttr (.ref x) name expr) Q E s := by
  obtain ⟨od, J, hl⟩ := I.look
  exact PySem.W.get_value X J (PySem.W.plainGet_of hg).1 (PySem.W.findObj_own hh ha rfl (by rw [hl, hv])) hv' h
theorem get_meth {pl : Sem Bool} {Q : Value × List Value → Shared → Prop} (X : K.In s.heap) (I : ObjM s.heap x dx C mA) (hg : PySem.W.plainGet K C name = true)
    (hf : PySem.W.findIn K (.ref C) name = some (some (.ref f))) (ht : PySem.W.isFn K (.ref f) = true) (hv : mA name = none) (h : Q (.ref f, [.ref x]) s) :
    wpAny (model prog w) A (getMethod (.ref x) name pl) Q E s := by
  obtain ⟨od, J, hl⟩ := I.look
  exact PySem.W.method_fn X J (PySem.W.plainGet_of hg).1 (PySem.W.plainGet_of hg).2 hf (beq_iff_eq.mp ht) (by show (PySem.W.lookIn name od).map (·.isSome) = some false; rw [hl, hv]; rfl) h
theorem set_map {ns : List Str} {Q : Unit → Shared → Prop} (X : K.In s.heap) (I : ObjM s.heap x dx C mA)
    (hs : PySem.W.findIn K (.ref C) "__setattr__" = some (some (.builtin "object.__setattr__"))) (hp : PySem.W.plainOver K C = true) (ht : PySem.W.takerIn K C name = some none) (hh : PySem.W.hasDictIn K C = true)
    (hw : PySem.Within mA ns) (hsz : ns.length ≤ sizeLine)
    (h : ∀ h', ObjM h' x dx C (fun y => if y = name then some v else mA y) → Heap.SameBut dx s.heap h' → Q () { s with heap := h', toks := s.toks + 2 }) :
    wpAny (model prog w) A (setAttr (.ref x) name v) Q E s := by
  obtain ⟨od, J, hl⟩ := I.look
  refine PySem.W.set_plain X J hs (PySem.W.osa_open (s := { s with toks := s.toks + 1 }) (r := none) X J hp ht fun b => ?_)
  obtain ⟨cd, hc, hd'⟩ := PySem.W.any_some hh
  have hx : s.heap.get? x = some ⟨.ref C, some dx, .plain, #[]⟩ := I.obj
  refine wpAny_bind (wpAny_pure (wpAny_bind (wpAny_bind (wpAny_loadPart hx (wpAny_bind (PySem.W.Looks.here (s := { s with toks := s.toks + 1 }) (PySem.W.looks_clsIn X hc) ?_))))))
  rw [hd']
  refine wpAny_pure (a := some dx) (wpAny_bind (wpAny_pure (wpAny_bind ?_)))
  refine wpAny_nsSet1 (s := { s with toks := s.toks + 1 }) I.ns fun h' hn2 hs2 => ?_
  obtain ⟨oD, esD, epD, hoD, hdD, hcD⟩ := hn2.count (PySem.Within.cons name v hw)
  refine wpAny_bind (wpAny_lookBehind hoD (by rw [hdD]; exact pastItsLine_dict (Nat.le_trans hcD (by rw [List.length_cons]; omega))) ?_)
  exact wpAny_pure (h _ ⟨(hs2.2 _ (Ne.symm I.ne)).trans I.obj, hn2, I.ne⟩ hs2)
theorem make_map {R : Result → Shared → Prop} {vs : List Value} {kw : List (Str × Value)} (X : K.In s.heap) (hm : PySem.W.makesIn K C = true)
    (hi : PySem.W.findIn K (.ref C) "__init__" = some (some (.ref f))) (hf : PySem.W.typeIn K (.ref f) = some (.type "function"))
    (h : codeAny (model prog w) (A.under (.builtin "type.__call__" ⟨.ref C :: vs, kw⟩)) (.call (.ref f) ⟨.ref (s.heap.objs.size + 1) :: vs, kw⟩) (PySem.W.InitBack (s.heap.objs.size + 1) R)
      { s with heap := (s.heap.push PySem.W.emptyDict).push (PySem.W.instObj C s.heap.objs.size) }) :
    codeAny (model prog w) A (.call (.ref C) ⟨vs, kw⟩) R s := by
  obtain ⟨hh, g, d, t, os⟩ := s
  exact PySem.W.make_core (PySem.W.makes_of X hm) (PySem.W.looks_findIn X hi) (fun self => PySem.W.bind_fn X self hf) (.inl rfl) h
end
def putF (f : Str) (v : V) : List (Str × V) → List (Str × V)
  | [] => [(f, v)]
  | (g, x) :: r => if g = f then (g, v) :: r else (g, x) :: putF f v r
theorem lookup_putF (f g : Str) (v : V) : ∀ fs : List (Str × V), (putF f v fs).lookup g = if g = f then some v else fs.lookup g
  | [] => by
    show List.lookup g [(f, v)] = _
    by_cases h : g = f
    · have hb : (g == f) = true := beq_iff_eq.mpr h
      simp only [List.lookup, hb, if_pos h]
    · have hb : (g == f) = false := beq_eq_false_iff_ne.mpr h
      simp only [List.lookup, hb, if_neg h]
  | (k, x) :: r => by
    have ih := lookup_putF f g v r
    rw [show putF f v ((k, x) :: r) = (if k = f then (k, v) :: r else (k, x) :: putF f v r) from rfl]
    by_cases hk : k = f
    · rw [if_pos hk]
      by_cases h : g = k
      · have hb : (g == k) = true := beq_iff_eq.mpr h
        simp only [List.lookup, hb, if_pos (h.trans hk)]
      · have hb : (g == k) = false := beq_eq_false_iff_ne.mpr h
        simp only [List.lookup, hb, if_neg (fun e : g = f => h (e.trans hk.symm))]
    · rw [if_neg hk]
      by_cases h : g = k
      · have hb : (g == k) = true := beq_iff_eq.mpr h
        simp only [List.lookup, hb, if_neg (fun e : g = f => hk (h.symm.trans e))]
      · have hb : (g == k) = false := beq_eq_false_iff_ne.mpr h
        simp only [List.lookup, hb]
        exact ih
theorem keys_putF (f : Str) (v : V) : ∀ fs : List (Str × V), f ∈ (putF f v fs).map (·.1) ∧ ∀ g, g ∈ fs.map (·.1) → g ∈ (putF f v fs).map (·.1)
  | [] => ⟨by simp [putF], fun g h => by simp at h⟩
  | (k, x) :: r => by
    obtain ⟨i1, i2⟩ := keys_putF f v r
    rw [show putF f v ((k, x) :: r) = (if k = f then (k, v) :: r else (k, x) :: putF f v r) from rfl]
    by_cases hk : k = f
    · rw [if_pos hk]
      subst hk
      exact ⟨by simp, fun g h => by simpa using h⟩
    · rw [if_neg hk]
      refine ⟨?_, fun g h => ?_⟩
      · rw [List.map_cons]
        exact List.mem_cons_of_mem _ i1
      · rw [List.map_cons] at h ⊢
        rcases List.mem_cons.mp h with e | e
        · exact List.mem_cons.mpr (.inl e)
        · exact List.mem_cons_of_mem _ (i2 g e)
theorem length_putF (f : Str) (v : V) : ∀ fs : List (Str × V), (putF f v fs).length ≤ fs.length + 1
  | [] => by simp [putF]
  | (k, x) :: r => by
    have ih := length_putF f v r
    rw [show putF f v ((k, x) :: r) = (if k = f then (k, v) :: r else (k, x) :: putF f v r) from rfl]
    by_cases hk : k = f
    · rw [if_pos hk, List.length_cons, List.length_cons]; omega
    · rw [if_neg hk, List.length_cons, List.length_cons]; omega
theorem RelO.some_of {v : V} {o : Option Value} (r : RelO (some v) o) : ∃ u, o = some u ∧ RelV v u := by
  cases o with
  | none => exact (show False from r).elim
  | some u => exact ⟨u, rfl, r⟩
theorem RelO.none_of {o : Option Value} (r : RelO none o) : o = none := by
  cases o with
  | none => rfl
  | some u => exact (show False from r).elim
theorem handed_of {v : V} {u : Value} (r : RelV v u) : PySem.W.handedIn u = true := by
  cases v with
  | non => cases (show u = Value.none from r); rfl
  | bl b => cases (show u = Value.bool b from r); rfl
  | int i => obtain ⟨t, e⟩ := (show ∃ t, u = Value.int i t from r); cases e; rfl
  | str x => obtain ⟨t, e⟩ := (show ∃ t, u = Value.str x t from r); cases e; rfl
  | byt b => obtain ⟨t, e⟩ := (show ∃ t, u = Value.bytes b t from r); cases e; rfl
  | flt b => obtain ⟨t, e⟩ := (show ∃ t, u = Value.float b t from r); cases e; rfl
  | ref a => cases (show u = Value.ref a from r); rfl
  | ty n => cases (show u = Value.type n from r); rfl
section
variable {P : Program} {w : World} {H H' : Hp} {h h' : Heap} {a C dx : Addr} {fs fs' : List (Str × V)}
theorem ins_get (hok : HOk P w H h) (e : H a = some (.ins C dx fs)) : ∃ mA, ObjM h a dx C mA ∧ (∀ f, RelO (fs.lookup f) (mA f)) ∧ PySem.Within mA (fs.map (·.1)) ∧ fs.length ≤ 1000 ∧ H dx = some (.own a) := by
  obtain ⟨d, z, ne, ob, mA, n, r, q⟩ := (show ObjOk P w H h a (.ins C dx fs) from hok a _ e)
  exact ⟨mA, ⟨ob, n, ne⟩, r, q, z, d⟩
end
structure Cls (K : PySem.W.Frag) (C : Addr) : Prop where
  pg : PySem.W.plainGet K C Str.empty = true
  hd : PySem.W.hasDictIn K C = true
  po : PySem.W.plainOver K C = true
  sa : PySem.W.findIn K (.ref C) "__setattr__" = some (some (.builtin "object.__setattr__"))
theorem Cls.get {K : PySem.W.Frag} {C : Addr} (c : Cls K C) (f : Str) : PySem.W.plainGet K C f = true := c.pg
def NoAttr (K : PySem.W.Frag) (C : Addr) (f : Str) : Prop := PySem.W.findIn K (.ref C) f = some none
theorem NoAttr.taker {K : PySem.W.Frag} {C : Addr} {f : Str} (n : NoAttr K C f) : PySem.W.takerIn K C f = some none := by
  unfold PySem.W.takerIn
  rw [show PySem.W.findIn K (.ref C) f = some none from n]
  rfl
structure Meth (K : PySem.W.Frag) (C : Addr) (m : Str) (f : Addr) : Prop where
  at_ : PySem.W.findIn K (.ref C) m = some (some (.ref f))
  fn : PySem.W.isFn K (.ref f) = true
  kp : PySem.W.keepIn K (.ref f) = true
section
variable {X : Cx} {pins : List (Addr × Obj)} {σ : St} {H : Hp} {s : Shared} {a C dx : Addr} {fs : List (Str × V)} {f : Str} {v : V} {A : Around} {E : Value → Shared → Prop}
theorem getattr_ok {b : Bool} {Q : Value → Shared → Prop} (I : Inv X pins σ H s) (e : H a = some (.ins C dx fs)) (c : Cls X.K C) (n : NoAttr X.K C f) (l : fs.lookup f = some v)
    (h : ∀ u s', Inv X pins σ H s' → RelV v u → Q u s') : wpAny (model X.prog X.w) A (getAttr (.ref a) f b) Q E s := by
  obtain ⟨mA, O, r, _, _, _⟩ := ins_get I.hok e
  obtain ⟨u, hu, ru⟩ := RelO.some_of (v := v) (o := mA f) (by rw [← l]; exact r f)
  exact get_map I.kIn O (c.get f) c.hd n hu (handed_of ru) (h u _ (I.tok _) ru)
theorem getmeth_ok {m : Str} {g : Addr} {pl : Sem Bool} {Q : Value × List Value → Shared → Prop} (I : Inv X pins σ H s) (e : H a = some (.ins C dx fs)) (c : Cls X.K C) (k : Meth X.K C m g) (l : fs.lookup m = none)
    (h : Q (.ref g, [.ref a]) s) : wpAny (model X.prog X.w) A (getMethod (.ref a) m pl) Q E s := by
  obtain ⟨mA, O, r, _, _, _⟩ := ins_get I.hok e
  have hn : mA m = none := RelO.none_of (by rw [← l]; exact r m)
  exact get_meth I.kIn O (c.get m) k.at_ k.fn hn h
theorem setattr_ok {y : V} {u : Value} {Q : Unit → Shared → Prop} (I : Inv X pins σ H s) (e : H a = some (.ins C dx fs)) (c : Cls X.K C) (n : NoAttr X.K C f) (hl : fs.length < 1000) (ry : RelV y u)
    (h : ∀ s', Inv X pins σ (upd H a (.ins C dx (putF f y fs))) s' → Q () s') : wpAny (model X.prog X.w) A (setAttr (.ref a) f u) Q E s := by
  obtain ⟨mA, O, r, wi, _, ho⟩ := ins_get I.hok e
  have hz : (fs.map (·.1)).length ≤ sizeLine := by rw [List.length_map, sizeLine_eq]; omega
  refine set_map I.kIn O c.sa c.po n.taker c.hd wi hz fun h' O' sb => h _ ?_
  have hd : ∃ o, h'.get? dx = some o := let ⟨o, _, _, e', _⟩ := O'.ns; ⟨o, e'⟩
  refine I.write (x := a) (e := dx) (by rw [e]; exact True.intro) (.inr ho) (fun b q hb z => (sb.2 b hb).trans z) hd ?_
  refine ⟨by rw [upd_ne O.ne]; exact ho, ?_, O.ne, O'.obj, _, O'.ns, fun g => ?_, fun g hg => ?_⟩
  · have := length_putF f y fs; omega
  · show RelO ((putF f y fs).lookup g) (if g = f then some u else mA g)
    rw [lookup_putF]
    by_cases q : g = f
    · rw [if_pos q, if_pos q]; exact ry
    · rw [if_neg q, if_neg q]; exact r g
  · by_cases q : g = f
    · rw [q]; exact (keys_putF f y fs).1
    · refine (keys_putF f y fs).2 g (wi g fun z => hg ?_)
      show (if g = f then some u else mA g) = none
      rw [if_neg q]; exact z
theorem Inv.made (I : Inv X pins σ H s) : Inv X pins σ (upd (upd H s.heap.objs.size (.own (s.heap.objs.size + 1))) (s.heap.objs.size + 1) (.ins C s.heap.objs.size []))
    { s with heap := (s.heap.push PySem.W.emptyDict).push (PySem.W.instObj C s.heap.objs.size) } := by
  have e1 : (s.heap.push PySem.W.emptyDict).get? s.heap.objs.size = some PySem.W.emptyDict := Heap.get?_push_size s.heap rfl
  have e2 : ((s.heap.push PySem.W.emptyDict).push (PySem.W.instObj C s.heap.objs.size)).get? (s.heap.objs.size + 1) = some (PySem.W.instObj C s.heap.objs.size) := by
    have := Heap.get?_push_size (s.heap.push PySem.W.emptyDict) (o := PySem.W.instObj C s.heap.objs.size) rfl
    rwa [Heap.size_push] at this
  have e3 : (s.heap.push PySem.W.emptyDict).Ns s.heap.objs.size (fun _ => none) := ⟨PySem.W.emptyDict, #[], _, e1, rfl, (fun e he => absurd he (by simp)), fun _ => rfl⟩
  have I1 := I.laid (a := s.heap.objs.size) (o := .own (s.heap.objs.size + 1)) (h' := s.heap.push PySem.W.emptyDict) (t' := s.toks) (fun b u q => Heap.get?_push_of_some _ q) (Nat.le_refl _) ⟨_, e1⟩
  refine I1.laid (a := s.heap.objs.size + 1) (o := .ins C s.heap.objs.size []) (t' := s.toks) (fun b u q => Heap.get?_push_of_some _ q) (Nat.le_of_eq (Heap.size_push _ _)) ?_
  have ne : s.heap.objs.size ≠ s.heap.objs.size + 1 := Nat.ne_of_lt (Nat.lt_succ_self _)
  refine ⟨by rw [upd_ne ne, upd_same], Nat.zero_le _, ne, e2, fun _ => none, (Heap.Ns1.of_empty e3).at fun o q => Heap.get?_push_of_some _ q, fun _ => True.intro, fun y hy => absurd rfl hy⟩
theorem attr_of {prog : Program} {w : World} {env : Env} {e : Expr} {f : Str} {pos : Pos} {s : Shared} {Q : Value → Shared → Prop} (hb : attributeBase e f env (eval e env) = eval e env)
    (h : wpAny (model prog w) A (eval e env) (fun o s₁ => wpAny (model prog w) A (getAttr o f true) Q E s₁) E s) : wpAny (model prog w) A (eval (.Attribute e f pos) env) Q E s :=
  Attribute_any_ h (by rw [arm_eval_Attribute, hb])
end
def tFld (K : PySem.W.Frag) (ta : TE) (f : Str) : TE := fun σ H Q => ta σ H fun x H1 => ∃ a C dx fs v, x = .ref a ∧ H1 a = some (.ins C dx fs) ∧ Cls K C ∧ NoAttr K C f ∧ fs.lookup f = some v ∧ Q v H1
def sFld (K : PySem.W.Frag) (ta tv : TE) (f : Str) : TS := fun D σ H => tv σ H fun y H1 => ta σ H1 fun x H2 => ∃ a C dx fs, x = .ref a ∧ H2 a = some (.ins C dx fs) ∧ Cls K C ∧ NoAttr K C f ∧ fs.length < 1000 ∧
  D.nx σ (upd H2 a (.ins C dx (putF f y fs)))
def InOp (X : Cx) (op : Operator) (rd : V → V → Hp → VK → Prop) : Prop :=
  ∀ (pins : List (Addr × Obj)) (s : Shared) (σ : St) (H : Hp) (x y : V) (u v : Value) (Q : VK), Inv X pins σ H s → RelV x u → RelV y v → rd x y H Q → wpAny (model X.prog X.w) X.A (inplaceOp op u v) (EP X pins σ Q) X.xe s
def sFldAug (K : PySem.W.Frag) (ta tv : TE) (rd : V → V → Hp → VK → Prop) (f : Str) : TS := fun D σ H => ta σ H fun x H1 => ∃ a C dx fs v, x = .ref a ∧ H1 a = some (.ins C dx fs) ∧ Cls K C ∧ NoAttr K C f ∧ fs.lookup f = some v ∧
  tv σ H1 fun y H2 => rd v y H2 fun z H3 => ∃ dx' fs', H3 a = some (.ins C dx' fs') ∧ fs'.length < 1000 ∧ D.nx σ (upd H3 a (.ins C dx' (putF f z fs')))
section
variable {X : Cx} {o e value : Expr} {f : Str} {pos pos' tpos : Pos} {ta tv : TE}
theorem pe_fld (he : PE X e ta) (hb : attributeBase e f X.env (eval e X.env) = eval e X.env) : PE X (.Attribute e f pos) (tFld X.K ta f) := by
  intro pins s σ H Q I h
  refine attr_of hb (thn (he pins s σ H _ I h) fun u s1 ⟨x, H1, I1, rx, a, C, dx, fs, v, ex, ea, c, n, l, q⟩ => ?_)
  subst ex
  obtain rfl : u = Value.ref a := rx
  exact getattr_ok I1 ea c n l fun u' s2 I2 ru => ⟨v, H1, I2, ru, q⟩
theorem ps_fld (ha : PE X o ta) (hv : PE X value tv) (hs : swapsWith value (some (.Attribute o f pos')) pos.line X.env = pure false) : PS X (.Assign [.Attribute o f pos'] value pos) (sFld X.K ta tv f) := by
  intro pins s σ H D I h
  refine plainObj_wpAny_Assign_Attribute (thn (hv pins s σ H _ I h) fun u s1 ⟨y, H1, I1, ry, q⟩ => thn (ha pins s1 σ H1 _ I1 q) fun ov s2 ⟨x, H2, I2, rx, a, C, dx, fs, ex, ea, c, n, l, q2⟩ => ?_) hs
  subst ex
  obtain rfl : ov = Value.ref a := rx
  exact setattr_ok I2 ea c n l ry fun s3 I3 => ⟨σ, _, I3, q2⟩
theorem ps_fldaug {op : Operator} {rd : V → V → Hp → VK → Prop} (ha : PE X o ta) (hv : PE X value tv) (hop : InOp X op rd) : PS X (.AugAssign (.Attribute o f tpos) op value pos) (sFldAug X.K ta tv rd f) := by
  intro pins s σ H D I h
  refine wpAny_AugAssign_AttributeAny (thn (ha pins s σ H _ I h) fun ov s1 ⟨x, H1, I1, rx, a, C, dx, fs, v, ex, ea, c, n, l, q⟩ => ?_)
  subst ex
  obtain rfl : ov = Value.ref a := rx
  refine getattr_ok I1 ea c n l fun u s2 I2 ru => thn (hv pins s2 σ H1 _ I2 q) fun w3 s3 ⟨y, H2, I3, ry, q3⟩ => thn (hop pins s3 σ H2 v y u w3 _ I3 ru ry q3) fun w4 s4 ⟨z, H3, I4, rz, dx', fs', ea', l', q4⟩ => ?_
  exact setattr_ok I4 ea' c n l' rz fun s5 I5 => ⟨σ, _, I5, q4⟩
def rAdd : V → V → Hp → VK → Prop := fun x y H Q => ∃ i j, x = .int i ∧ y = .int j ∧ Q (.int (i + j)) H
theorem in_add : InOp X .Add rAdd := by
  rintro pins s σ H x y u v Q I rx ry ⟨i, j, rfl, rfl, q⟩
  obtain ⟨t, rfl⟩ := (show ∃ t, u = Value.int i t from rx)
  obtain ⟨t', rfl⟩ := (show ∃ t', v = Value.int j t' from ry)
  exact PyProof.Rows.iadd_int ⟨.int (i + j), H, I.tok _, ⟨_, rfl⟩, q⟩
end
section
variable {X : Cx} {pins : List (Addr × Obj)} {σ : St} {H : Hp} {s : Shared} {A : Around} {E : Value → Shared → Prop} {Q : Value → Shared → Prop} {c : Value} {b : Bool}
end
end L2
namespace L2
open PySem PySem.Spec PyProof.Rows
structure Room (k : Nat) (A : Around) : Prop where
  hd : A.handled = none
  dp : A.depth + 3 * k + 5 < recursionLimit
  un : A.units + 16 * k + 200 < cLine
theorem Room.mono {j k : Nat} {A : Around} (r : Room k A) (h : j ≤ k) : Room j A := ⟨r.hd, by have := r.dp; omega, by have := r.un; omega⟩
theorem Room.deeper {k : Nat} {A : Around} (r : Room (k + 1) A) (env : Env) : Room k (A.deeper env) :=
  ⟨r.hd, by have := r.dp; show A.depth + 1 + 3 * k + 5 < _; omega, by have := r.un; show A.units + 3 + 16 * k + 200 < _; omega⟩
theorem make_depth {A : Around} {C : Addr} {us : List Value} {kw : List (Str × Value)} : (A.under (.builtin "type.__call__" ⟨.ref C :: us, kw⟩)).depth = A.depth + 1 := by
  first | rfl | simp [Around.under, Code.weight, Code.isCreation, Code.isGuard, Code.isCaller, Code.frames, Code.isFrame, guardIds]
theorem make_units {A : Around} {C : Addr} {us : List Value} {kw : List (Str × Value)} : (A.under (.builtin "type.__call__" ⟨.ref C :: us, kw⟩)).units = A.units + 1 := by
  first | rfl | simp [Around.under, Code.cUnits, Code.frames, Code.isFrame]
theorem Room.make {k : Nat} {A : Around} (r : Room (k + 1) A) (C : Addr) (us : List Value) (kw : List (Str × Value)) : Room k (A.under (.builtin "type.__call__" ⟨.ref C :: us, kw⟩)) :=
  ⟨r.hd, by have := r.dp; rw [make_depth]; omega, by have := r.un; rw [make_units]; omega⟩
theorem Room.depth {k : Nat} {A : Around} (r : Room k A) : A.depth < recursionLimit := by have := r.dp; omega
def tNil : TA := fun _ H Q => Q [] H
def tCons (ta : TE) (tr : TA) : TA := fun σ H Q => ta σ H fun x H1 => tr σ H1 fun xs H2 => Q (x :: xs) H2
section
variable {X : Cx} {e : Expr} {es : List Expr} {te : TE} {t : TA} {pos : Pos}
theorem pa_nil : PA X [] tNil := fun _ _ _ _ H Q I h => Calls.spliced_nil ⟨[], H, I, .nil, h⟩
theorem pa_cons (ha : PE X e te) (hr : PA X es t) (hs : starEach (e :: es) X.env = (false, eval e X.env) :: starEach es X.env := by rfl) : PA X (e :: es) (tCons te t) := by
  intro pos pins s σ H Q I h
  rw [hs]
  show wpAny _ _ (spliced ((false, eval e X.env) :: backTo pos (starEach es X.env))) _ _ s
  refine Calls.spliced_cons (thn (ha pins s σ H _ I h) fun u s1 ⟨x, H1, I1, r1, q1⟩ => ?_)
  exact thn (hr pos pins s1 σ H1 _ I1 q1) fun us s2 ⟨xs, H2, I2, r2, q2⟩ => ⟨x :: xs, H2, I2, .cons r1 r2, q2⟩
def tTup (t : TA) : TE := fun σ H Q => t σ H fun xs H1 => xs.length ≤ sizeLine ∧ ∀ p, H1 p = none → Q (.ref p) (upd H1 p (.tup xs))
def tLst (t : TA) : TE := fun σ H Q => t σ H fun xs H1 => xs.length ≤ sizeLine ∧ ∀ p, H1 p = none → Q (.ref p) (upd H1 p (.lst xs))
theorem pe_tup {x1} (h : PA X es t) : PE X (.Tuple es x1 pos) (tTup t) := by
  intro pins s σ H Q I hq
  refine wpAny_Tuple_spliced (thn (h pos pins s σ H _ I hq) fun us s1 ⟨xs, H1, I1, r, z, q⟩ => ⟨by rw [← r.length]; exact z, ?_⟩)
  have hf : H1 s1.heap.objs.size = none := I1.hok.fresh (Nat.le_refl _)
  refine ⟨.ref s1.heap.objs.size, upd H1 s1.heap.objs.size (.tup xs), I1.laid (t' := s1.toks) (fun b u e => Heap.get?_push_of_some _ e) (Nat.le_refl _) ?_, rfl, q _ hf⟩
  exact ⟨z, us, r, ⟨_, Heap.get?_push_size _ rfl, rfl, _, rfl⟩⟩
theorem pe_lst (h : PA X es t) : PE X (.List es pos) (tLst t) := by
  intro pins s σ H Q I hq
  refine wpAny_List_spliced (thn (h pos pins s σ H _ I hq) fun us s1 ⟨xs, H1, I1, r, z, q⟩ => ⟨by rw [← r.length]; exact z, ?_⟩)
  have hf : H1 s1.heap.objs.size = none := I1.hok.fresh (Nat.le_refl _)
  refine ⟨.ref s1.heap.objs.size, upd H1 s1.heap.objs.size (.lst xs), I1.laid (t' := s1.toks) (fun b u e => Heap.get?_push_of_some _ e) (Nat.le_refl _) ?_, rfl, q _ hf⟩
  exact ⟨z, us, 0, r, Heap.get?_push_size _ rfl⟩
end
abbrev Sp := List V → Hp → VK → XK → Prop
abbrev CXT := List Env → Hp → Shared → XK → Value → Shared → Prop
structure Env0 (P : Program) (w : World) (K : PySem.W.Frag) (mg : Str → Option Value) (base : Heap) (A : Around) (outer : List Env) (s : Shared) (H : Hp) : Prop where
  frames : A.frames = some outer
  mod : Mod K mg base
  bs : ∀ b o, base.get? b = some o → s.heap.get? b = some o ∧ H b = none
  bsz : base.objs.size ≤ s.heap.objs.size
  funs : s.heap.FunFrames base outer
  frf : ∀ b ∈ frs outer, H b = none
  hok : HOk P w H s.heap
  bare : AllBare s.gens
def CE (outer : List Env) (P : Program) (w : World) (H : Hp) (s : Shared) (Q : VK) (u : Value) (s' : Shared) : Prop :=
  ∃ v H', s'.os = s.os ∧ AllBare s'.gens ∧ Un (frs outer) [] H H' s.heap s'.heap ∧ HOk P w H' s'.heap ∧ RelV v u ∧ Q v H'
def CR (CX : CXT) (outer : List Env) (P : Program) (w : World) (H : Hp) (s : Shared) (Q : VK) (E : XK) (r : Result) (s' : Shared) : Prop :=
  match r with
  | .ok (.ret u) => CE outer P w H s Q u s'
  | .ok _ => False
  | .error e => CX outer H s E e s'
structure FnOk (P : Program) (w : World) (K : PySem.W.Frag) (mg : Str → Option Value) (base : Heap) (CX : CXT) (k : Nat) (f : Addr) (fd : FuncData) (ps : List Str) (sp : Sp) : Prop where
  len : ∀ vs H Q E, sp vs H Q E → vs.length = ps.length
  run : ∀ (A : Around) (outer : List Env) (s : Shared) (H : Hp) (args : Args) (us : List Value) (vs : List V) (Q : VK) (E : XK), Room k A → Env0 P w K mg base A outer s H → BindsTo s fd args (ps.zip us) → Vals vs us → sp vs H Q E →
    codeAny (model P w) A (.call (.ref f) args) (CR CX outer P w H s Q E) s
theorem Env0.make {P : Program} {w : World} {K : PySem.W.Frag} {mg : Str → Option Value} {base : Heap} {A : Around} {outer : List Env} {s : Shared} {H : Hp} (e : Env0 P w K mg base A outer s H) (C : Addr) (us : List Value) (kw : List (Str × Value)) :
    Env0 P w K mg base (A.under (.builtin "type.__call__" ⟨.ref C :: us, kw⟩)) outer s H := ⟨by first | exact e.frames | (simpa [Around.under, Code.envs, Code.isFrame, pushEnvs] using e.frames), e.mod, e.bs, e.bsz, e.funs, e.frf, e.hok, e.bare⟩
section
variable {X : Cx} {pins : List (Addr × Obj)} {σ : St} {H : Hp} {s s' : Shared}
theorem Inv.env0 (I : Inv X pins σ H s) : Env0 X.prog X.w X.K X.mg X.base X.A X.stack s H :=
  ⟨I.ok.frames, I.ok.mod, I.bs, Nat.le_trans I.ok.bsz I.sz, I.stack, I.stkFree, I.hok, I.bare⟩
theorem Inv.after {Q : VK} {u : Value} (I : Inv X pins σ H s) (h : CE X.stack X.prog X.w H s Q u s') : EP X pins σ Q u s' := by
  obtain ⟨v, H', os, bare, un, hok, r, q⟩ := h
  obtain ⟨hh, g, d, t, os'⟩ := s'
  obtain rfl : os' = s.os := os
  exact ⟨v, H', I.call (h' := hh) (g' := g) (d' := d) (t' := t) (ch := []) un hok bare (fun b z => absurd z (by simp)), r, q⟩
end
def tCall (sp : Sp) (dvs : List V) (E : XK) (t : TA) : TE := fun σ H Q => t σ H fun vs H1 => sp (vs ++ dvs) H1 Q E
def tMeth (C : Addr) (m : Str) (sp : Sp) (dvs : List V) (E : XK) (ta : TE) (t : TA) : TE := fun σ H Q => ta σ H fun x H1 => ∃ a dx fs, x = .ref a ∧ H1 a = some (.ins C dx fs) ∧ fs.lookup m = none ∧
  t σ H1 fun vs H2 => sp (x :: (vs ++ dvs)) H2 Q E
def tMake (C : Addr) (sp : Sp) (dvs : List V) (E : XK) (t : TA) : TE := fun σ H Q => t σ H fun vs H1 => ∀ x dx, H1 x = none → H1 dx = none → dx ≠ x →
  sp (.ref x :: (vs ++ dvs)) (upd (upd H1 dx (.own x)) x (.ins C dx [])) (fun v H2 => v = .non ∧ Q (.ref x) H2) E
def Binds (K : PySem.W.Frag) (fd : FuncData) (ps : List Str) (ds : List Value) : Prop :=
  ∀ (s : Shared) (us : List Value), K.In s.heap → (us ++ ds).length = ps.length → BindsTo s fd ⟨us, []⟩ (ps.zip (us ++ ds))
theorem Binds.all {K : PySem.W.Frag} {fd : FuncData} {ps : List Str} (h : ∀ us : List Value, us.length = ps.length → bindArgs fd ⟨us, []⟩ = pure (ps.zip us)) : Binds K fd ps [] := fun s us _ hl => by
  rw [List.append_nil] at hl ⊢
  exact .of_eq (h us hl)
def Passes (CX : CXT) (X : Cx) (E : XK) : Prop := ∀ (pins : List (Addr × Obj)) (σ : St) (H : Hp) (s : Shared) (e : Value) (s' : Shared), Inv X pins σ H s → CX X.stack H s E e s' → X.xe e s'
section
variable {X : Cx} {CX : CXT} {k : Nat} {f C : Addr} {fd : FuncData} {ps : List Str} {sp : Sp} {dvs : List V} {ds : List Value} {E : XK} {x m : Str} {p pos apos : Pos} {e o : Expr} {es : List Expr} {ta : TE} {t : TA}
theorem run_fn {pins : List (Addr × Obj)} {σ : St} {H : Hp} {s : Shared} {Q : VK} {us : List Value} {vs : List V} (F : FnOk X.prog X.w X.K X.mg X.base CX k f fd ps sp) (hr : Room k X.A) (hb : Binds X.K fd ps ds) (hd : Vals dvs ds) (hx : Passes CX X E)
    (I : Inv X pins σ H s) (r : Vals vs us) (h : sp (vs ++ dvs) H Q E) : wpAny (model X.prog X.w) X.A (call (.ref f) us) (EP X pins σ Q) X.xe s := by
  have r2 : Vals (vs ++ dvs) (us ++ ds) := r.append hd
  have hl : (us ++ ds).length = ps.length := by rw [← r2.length]; exact F.len _ _ _ _ h
  refine wpAny_call (codeAny_mono (F.run X.A X.stack s H ⟨us, []⟩ (us ++ ds) (vs ++ dvs) Q E hr I.env0 (hb s us I.kIn hl) r2 h) fun r s' hq => ?_)
  cases r with
  | error e => exact hx pins σ H s e s' I hq
  | ok fl =>
    cases fl with
    | ret u => exact I.after hq
    | next => exact False.elim hq
    | brk => exact False.elim hq
    | cont => exact False.elim hq
theorem pe_call (F : FnOk X.prog X.w X.K X.mg X.base CX k f fd ps sp) (hr : Room k X.A) (hg : Gl X x) (hm : X.mg x = some (.ref f)) (hk : PySem.W.keepIn X.K (.ref f) = true) (hb : Binds X.K fd ps ds) (hd : Vals dvs ds) (hx : Passes CX X E)
    (ha : PA X (e :: es) t) (hdb : (x == ("__debug__" : Str)) = false := by decide) (he : starEach (e :: es) X.env = (false, eval e X.env) :: starEach es X.env := by rfl) (hpl : (backTo pos (starEach es X.env)).any (·.1) = false := by rfl) :
    PE X (.Call (.Name x p) (e :: es) [] pos) (tCall sp dvs E t) := by
  intro pins s σ H Q I h
  refine wpAny_Call_Name_kw (ld_glob I hg hm ?_ hdb)
  refine PySem.W.callWith_K (h₀ := X.base) I.ok.mod.kin hk (thn (ha pos pins s σ H _ I h) fun us s1 ⟨vs, H1, I1, r, q⟩ => ⟨I1.kIn, ?_⟩) he hpl
  exact run_fn F hr hb hd hx I1 r q
theorem pe_meth {pl : Sem Bool} (he : PE X o ta) (c : Cls X.K C) (hm : Meth X.K C m f) (F : FnOk X.prog X.w X.K X.mg X.base CX k f fd ps sp) (hr : Room k X.A) (hb : Binds X.K fd ps ds) (hd : Vals dvs ds) (hx : Passes CX X E) (ha : PA X (e :: es) t)
    (hst : starEach (e :: es) X.env = (false, eval e X.env) :: starEach es X.env := by rfl) (hpl : (backTo pos (starEach es X.env)).any (·.1) = false := by rfl)
    (ht : eval (.Call (.Attribute o m apos) (e :: es) [] pos) X.env = (do
      let ov ← eval o X.env
      standAt apos.atName
      let (f, first) ← holding [ov] (getMethod ov m pl)
      callWith pos f first (backTo pos (starEach (e :: es) X.env)) (backToKw pos (keywordEach [] X.env))) := by rfl) :
    PE X (.Call (.Attribute o m apos) (e :: es) [] pos) (tMeth C m sp dvs E ta t) := by
  intro pins s σ H Q I h
  refine PySem.W.methodCall_KW (pl := pl) (thn (he pins s σ H _ I h) fun u s1 ⟨x, H1, I1, rx, a, dx, fs, ex, ea, l, q⟩ => ?_) ht
  subst ex
  obtain rfl : u = Value.ref a := rx
  refine getmeth_ok I1 ea c hm l ?_
  refine PySem.W.callWith_K (first := [.ref a]) (h₀ := X.base) I.ok.mod.kin hm.kp (thn (ha pos pins s1 σ H1 _ I1 q) fun us s2 ⟨vs, H2, I2, r, q2⟩ => ⟨I2.kIn, ?_⟩) hst hpl
  exact run_fn (us := .ref a :: us) (vs := .ref a :: vs) F hr hb hd hx I2 (.cons rfl r) q2
structure Mk (K : PySem.W.Frag) (C f : Addr) : Prop where
  makes : PySem.W.makesIn K C = true
  init : PySem.W.findIn K (.ref C) "__init__" = some (some (.ref f))
  fn : PySem.W.isFn K (.ref f) = true
  kp : PySem.W.keepIn K (.ref C) = true
theorem run_make {pins : List (Addr × Obj)} {σ : St} {H : Hp} {s : Shared} {Q : VK} {us : List Value} {vs : List V} (M : Mk X.K C f) (F : FnOk X.prog X.w X.K X.mg X.base CX k f fd ps sp) (hr : Room (k + 1) X.A) (hb : Binds X.K fd ps ds) (hd : Vals dvs ds)
    (hx : Passes CX X E) (I : Inv X pins σ H s) (r : Vals vs us)
    (h : ∀ x dx, H x = none → H dx = none → dx ≠ x → sp (.ref x :: (vs ++ dvs)) (upd (upd H dx (.own x)) x (.ins C dx [])) (fun v H2 => v = .non ∧ Q (.ref x) H2) E) :
    wpAny (model X.prog X.w) X.A (call (.ref C) us) (EP X pins σ Q) X.xe s := by
  have hq := h (s.heap.objs.size + 1) s.heap.objs.size (I.hok.fresh (Nat.le_succ _)) (I.hok.fresh (Nat.le_refl _)) (Nat.ne_of_lt (Nat.lt_succ_self _))
  have I2 := Inv.made (C := C) I
  have r2 : Vals (V.ref (s.heap.objs.size + 1) :: (vs ++ dvs)) (Value.ref (s.heap.objs.size + 1) :: (us ++ ds)) := .cons rfl (r.append hd)
  have hl : (Value.ref (s.heap.objs.size + 1) :: us ++ ds).length = ps.length := by
    have e := r2.length
    rw [F.len _ _ _ _ hq] at e
    exact e.symm
  refine wpAny_call (make_map (f := f) I.kIn M.makes M.init (beq_iff_eq.mp M.fn) (codeAny_mono (F.run _ X.stack _ _ ⟨Value.ref (s.heap.objs.size + 1) :: us, []⟩ (Value.ref (s.heap.objs.size + 1) :: (us ++ ds)) _ _ E (hr.make C us [])
    (I2.env0.make C us []) (hb _ (Value.ref (s.heap.objs.size + 1) :: us) I2.kIn hl) r2 hq) fun r s' hq' => ?_))
  cases r with
  | error e => exact hx pins σ _ _ e s' I2 hq'
  | ok fl =>
    cases fl with
    | ret u =>
      obtain ⟨v, H', I3, rv, ev, q3⟩ := I2.after hq'
      subst ev
      exact ⟨rv, ⟨V.ref (s.heap.objs.size + 1), H', I3, rfl, q3⟩⟩
    | next => exact False.elim hq'
    | brk => exact False.elim hq'
    | cont => exact False.elim hq'
theorem pe_make (M : Mk X.K C f) (F : FnOk X.prog X.w X.K X.mg X.base CX k f fd ps sp) (hr : Room (k + 1) X.A) (hg : Gl X x) (hm : X.mg x = some (.ref C)) (hb : Binds X.K fd ps ds) (hd : Vals dvs ds) (hx : Passes CX X E)
    (ha : PA X (e :: es) t) (hdb : (x == ("__debug__" : Str)) = false := by decide) (he : starEach (e :: es) X.env = (false, eval e X.env) :: starEach es X.env := by rfl) (hpl : (backTo pos (starEach es X.env)).any (·.1) = false := by rfl) :
    PE X (.Call (.Name x p) (e :: es) [] pos) (tMake C sp dvs E t) := by
  intro pins s σ H Q I h
  refine wpAny_Call_Name_kw (ld_glob I hg hm ?_ hdb)
  refine PySem.W.callWith_K (h₀ := X.base) I.ok.mod.kin M.kp (thn (ha pos pins s σ H _ I h) fun us s1 ⟨vs, H1, I1, r, q⟩ => ⟨I1.kIn, ?_⟩) he hpl
  exact run_make M F hr hb hd hx I1 r q
theorem pe_make0 (M : Mk X.K C f) (F : FnOk X.prog X.w X.K X.mg X.base CX k f fd ps sp) (hr : Room (k + 1) X.A) (hg : Gl X x) (hm : X.mg x = some (.ref C)) (hb : Binds X.K fd ps ds) (hd : Vals dvs ds) (hx : Passes CX X E)
    (hdb : (x == ("__debug__" : Str)) = false := by decide) : PE X (.Call (.Name x p) [] [] pos) (tMake C sp dvs E tNil) := by
  intro pins s σ H Q I h
  refine wpAny_Call_Name_kw (ld_glob I hg hm ?_ hdb)
  exact PySem.W.callWith_K0 I.kIn M.kp (run_make (us := []) M F hr hb hd hx I .nil h)
end
section
variable {X : Cx} {CX : CXT} {k : Nat} {f C : Addr} {fd : FuncData} {ps ks : List Str} {sp : Sp} {E : XK} {x m : Str} {p pos apos kpos : Pos} {e o : Expr} {es : List Expr} {kws : List Keyword} {te ta : TE} {t tk : TA} {nm : Option Str}
variable {g : List Value → List Value → List Value} {gV : List V → List V → List V}
end
structure FnScope (N P : List Str) (sc : Scope) : Prop where
  kind : sc.kind = .function
  co : sc.isCoroutine = false
  gen : sc.isGenerator = false
  nd : N.Nodup
  pre : N.take P.length = P
  par : ∀ x ∈ P, sc.names.lookup x = some .local ∨ sc.names.lookup x = some .cell
  nofree : ∀ y ∈ sc.names, y.2 ≠ .free
theorem bindL_out {kindOf : Str → Option NameKind} {x : Str} : ∀ {binds : List (Str × Value)} {m : Str → Option Value}, (∀ v, (x, v) ∉ binds) → bindL kindOf binds m x = m x
  | [], _, _ => rfl
  | (n, v) :: r, m, h => by
    unfold bindL
    rw [bindL_out fun w hw => h w (List.mem_cons_of_mem _ hw)]
    split
    · have : x ≠ n := by rintro rfl; exact h v List.mem_cons_self
      simp [this]
    · rfl
theorem bindC_out {kindOf : Str → Option NameKind} {x : Str} : ∀ {binds : List (Str × Value)} {m : Str → Option Value}, (∀ v, (x, v) ∉ binds) → bindC kindOf binds m x = m x
  | [], _, _ => rfl
  | (n, v) :: r, m, h => by
    unfold bindC
    rw [bindC_out fun w hw => h w (List.mem_cons_of_mem _ hw)]
    split
    · rfl
    · have : x ≠ n := by rintro rfl; exact h v List.mem_cons_self
      simp [this]
theorem bindL_get {kindOf : Str → Option NameKind} {x : Str} {v : Value} : ∀ {P : List Str} {vs : List Value} {i : Nat} {m : Str → Option Value}, P.Nodup → P[i]? = some x → vs[i]? = some v → kindOf x = some .local →
    bindL kindOf (P.zip vs) m x = some v
  | [], _, _, _, _, h, _, _ => by simp at h
  | _ :: _, [], _, _, _, _, h, _ => by simp at h
  | p :: P, w :: vs, 0, m, nd, h1, h2, hk => by
    simp at h1 h2; subst h1; subst h2
    show bindL kindOf ((p, w) :: P.zip vs) m p = _
    unfold bindL
    rw [bindL_out fun v hv => (List.nodup_cons.mp nd).1 (List.of_mem_zip hv).1, if_pos hk]
    simp
  | p :: P, w :: vs, i + 1, m, nd, h1, h2, hk => by
    show bindL kindOf ((p, w) :: P.zip vs) m x = _
    unfold bindL
    exact bindL_get (i := i) (List.nodup_cons.mp nd).2 (by simpa using h1) (by simpa using h2) hk
theorem bindC_get {kindOf : Str → Option NameKind} {x : Str} {v : Value} : ∀ {P : List Str} {vs : List Value} {i : Nat} {m : Str → Option Value}, P.Nodup → P[i]? = some x → vs[i]? = some v → kindOf x ≠ some .local →
    bindC kindOf (P.zip vs) m x = some v
  | [], _, _, _, _, h, _, _ => by simp at h
  | _ :: _, [], _, _, _, _, h, _ => by simp at h
  | p :: P, w :: vs, 0, m, nd, h1, h2, hk => by
    simp at h1 h2; subst h1; subst h2
    show bindC kindOf ((p, w) :: P.zip vs) m p = _
    unfold bindC
    rw [bindC_out fun v hv => (List.nodup_cons.mp nd).1 (List.of_mem_zip hv).1, if_neg hk]
    simp
  | p :: P, w :: vs, i + 1, m, nd, h1, h2, hk => by
    show bindC kindOf ((p, w) :: P.zip vs) m x = _
    unfold bindC
    exact bindC_get (i := i) (List.nodup_cons.mp nd).2 (by simpa using h1) (by simpa using h2) hk
def start (N : List Str) (vs : List V) : St := vs.map some ++ List.replicate (N.length - vs.length) none
def cxOf (CX : CXT) (P : Program) (w : World) (K : PySem.W.Frag) (mg : Str → Option Value) (base : Heap) (N : List Str) (qual : Str) (scope : Scope) (f : Addr) (cd : Value) (A : Around) (outer : List Env) (s : Shared) (H : Hp) (E : XK) : Cx where
  prog := P
  w := w
  K := K
  mg := mg
  base := base
  A := A.deeper (envOfC qual scope s.heap.objs.size f cd)
  N := N
  s_0 := s
  H_0 := H
  env := envOfC qual scope s.heap.objs.size f cd
  outer := outer
  stack := envOfC qual scope s.heap.objs.size f cd :: outer
  ex := []
  calm := true
  fn := fun _ => true
  pn := []
  xe := fun e s' => wpAny (model P w) (A.deeper (envOfC qual scope s.heap.objs.size f cd)) (leaving (envOfC qual scope s.heap.objs.size f cd) e) (fun _ s'' => CX outer H s E e s'') (fun e' s'' => CX outer H s E e' s'') s'
theorem cell_has {sc : Scope} {n : Nat} {x : Str} (h : sc.names.lookup x = some .cell) : ∃ c, (cellsFrom n sc.names []).lookup x = some c := by
  have q := PySem.W.cellsFrom_some sc.names n [] (.inl h)
  exact Option.isSome_iff_exists.mp q
theorem inv_start {CX : CXT} {P : Program} {w : World} {K : PySem.W.Frag} {mg : Str → Option Value} {base : Heap} {N ps : List Str} {qual : Str} {scope : Scope} {f : Addr} {cd : Value} {A : Around} {outer : List Env} {s s1 : Shared} {H : Hp} {E : XK} {us : List Value} {vs : List V}
    (S : FnScope N ps scope) (hd : A.handled = none) (e0 : Env0 P w K mg base A outer s H) (hl : vs.length = ps.length) (r : Vals vs us)
    (x : InCallC s s.heap.objs.size (bindL (envOfC qual scope s.heap.objs.size f cd).kindOf (ps.zip us) fun _ => none) (cellsFrom (s.heap.objs.size + 1) scope.names []) (bindC (envOfC qual scope s.heap.objs.size f cd).kindOf (ps.zip us) fun _ => none) s1) :
    Inv (cxOf CX P w K mg base N qual scope f cd A outer s H E) [] (start N vs) H s1 := by
  have hpl : ps.length ≤ N.length := by have := congrArg List.length S.pre; rw [List.length_take] at this; omega
  obtain ⟨h1, tk, rfl, hk⟩ := x.done
  have noA : ∀ b : Addr, b ∉ (cxOf CX P w K mg base N qual scope f cd A outer s H E).ex := fun b z => absurd (show b ∈ ([] : List Addr) from z) (by simp)
  refine ⟨⟨e0.mod, S.kind, rfl, rfl, Nat.le_refl _, fun y z c h1 h2 => ?_, fun y hy => ?_, fun y c _ h => ?_, fun _ => hd, Around.frames_deeper e0.frames, .inr ⟨rfl, rfl⟩, fun b z => absurd z (noA b), e0.bs, e0.bsz, fun b _ _ => noA b, fun b z => absurd z (noA b), e0.funs, e0.frf⟩,
    rfl, e0.bare, Un.kept hk, ⟨_, x.toInCall.ns, fun i y v h1 h2 h3 => ?_⟩, fun y c h => ⟨_, x.cell y c h⟩, e0.hok.fresh (Nat.le_refl _), fun y c h => ?_, fun p hp => absurd (show p ∈ ([] : List (Addr × Obj)) from hp) (by simp), e0.hok.kept hk, ?_⟩
  · exact name_of_addr x.apart (PySem.mem_of_lookup h1) (PySem.mem_of_lookup h2)
  · have hy : scope.names.lookup y = some .cell ∨ scope.names.lookup y = some .free := hy
    rcases hy with hy | hy
    · exact cell_has hy
    · exact absurd rfl (S.nofree _ (PySem.mem_of_lookup hy))
  · exact Nat.le_of_lt (x.above y c (PySem.mem_of_lookup h))
  · have hi : i < vs.length := by
      unfold start at h2
      by_cases hi : i < vs.length
      · exact hi
      · rw [List.getElem?_append_right (by simpa using hi)] at h2
        rw [List.getElem?_replicate] at h2
        split at h2 <;> cases h2
    have ha : vs[i]? = some v := by
      unfold start at h2
      rw [List.getElem?_append_left (by simpa using hi), List.getElem?_map] at h2
      cases e : vs[i]? with
      | none => rw [e] at h2; cases h2
      | some a => rw [e] at h2; cases h2; rfl
    obtain ⟨u, hu, rv⟩ := r.get ha
    have hp : ps[i]? = some y := by
      rw [← S.pre, List.getElem?_take_of_lt (by omega)]; exact h1
    have ndP : ps.Nodup := by rw [← S.pre]; exact S.nd.sublist (List.take_sublist _ _)
    refine ⟨u, rv, ?_⟩
    rcases S.par y (List.mem_of_getElem? hp) with k | k
    · exact .inl ⟨k, bindL_get ndP hp hu k⟩
    · obtain ⟨c, e⟩ := cell_has (n := s.heap.objs.size + 1) k
      refine .inr ⟨.inl k, c, e, ?_⟩
      have q := x.cell y c e
      rw [bindC_get ndP hp hu (by show scope.names.lookup y ≠ _; rw [k]; decide)] at q
      exact q
  · exact e0.hok.fresh (Nat.le_of_lt (x.above y c (PySem.mem_of_lookup h)))
  · unfold start
    show _ = N.length
    rw [List.length_append, List.length_map, List.length_replicate]
    omega
theorem fn_of {CX : CXT} {P : Program} {w : World} {K : PySem.W.Frag} {mg : Str → Option Value} {base : Heap} {k : Nat} {f : Addr} {name qual : Str} {params : Arguments} {body : List Stmt} {scope : Scope} {dV kV doc pm cdv ct oc : Value} {an od : Option Addr}
    {osl : Array (Option Value)} {N ps : List Str} {sp : Sp} (lk : K.lookup f = some ⟨oc, od, .func (PySem.W.fnOf name qual params body scope dV kV doc pm an cdv ct), osl⟩) (hcd : PySem.W.codeIn K cdv qual = true) (S : FnScope N ps scope)
    (len : ∀ vs H Q E, sp vs H Q E → vs.length = ps.length)
    (hbody : ∀ (A : Around) (outer : List Env) (s : Shared) (H : Hp) (vs : List V) (Q : VK) (E : XK), Room k (A.deeper (envOfC qual scope s.heap.objs.size f cdv)) → sp vs H Q E →
      ∃ t, PSs (cxOf CX P w K mg base N qual scope f cdv A outer s H E) body t ∧ t { nx := fun _ H' => Q .non H', rt := Q } (start N vs) H) :
    FnOk P w K mg base CX (k + 1) f (PySem.W.fnOf name qual params body scope dV kV doc pm an cdv ct) ps sp := by
  refine ⟨len, fun A outer s H args us vs Q E hr e0 hb r hsp => ?_⟩
  have hl := len _ _ _ _ hsp
  have KX : K.In s.heap := e0.mod.kin.keeps fun b o e => (e0.bs b o e).1
  have lim : s.heap.NoLimit := e0.mod.nolimit.keeps fun b o e => (e0.bs b o e).1
  have hkind : ∀ y ∈ ps.zip us, scope.names.lookup y.1 = some .local ∨ (scope.names.lookup y.1 = some .cell ∧ ((cellsFrom (s.heap.objs.size + 1) scope.names []).lookup y.1).isSome = true) := fun ⟨n, v⟩ hy => by
    rcases S.par n (List.of_mem_zip hy).1 with q | q
    · exact .inl q
    · exact .inr ⟨q, PySem.W.cellsFrom_some _ _ _ (.inl q)⟩
  refine codeAny_call_function hr.depth (KX _ _ lk) rfl S.co S.gen rfl (PySem.W.codeRec_of KX hcd) (hb _ _ _ _ ?_)
  refine wpAny_newFunctionEnv_cells S.kind hkind fun env he s1 x => ?_
  subst he
  refine ⟨lim.keeps x.toInCall.keep, codeAny_func ?_⟩
  obtain ⟨t, ht, hq⟩ := hbody A outer s H vs Q E (hr.deeper _) hsp
  have I : Inv (cxOf CX P w K mg base N qual scope f cdv A outer s H E) [] (start N vs) H s1 := inv_start S hr.hd e0 hl r x
  refine wpAny_mono (ht [] s1 (start N vs) H _ I hq) (fun fl s' hs => ?_) fun e s' hs => hs
  have fin : ∀ {σ' : St} {H' : Hp} {v : V} {u : Value}, Inv (cxOf CX P w K mg base N qual scope f cdv A outer s H E) [] σ' H' s' → RelV v u → Q v H' → CE outer P w H s Q u s' :=
    fun {σ' H' v u} J rv q => ⟨v, H', J.os, J.bare, J.base, J.hok, rv, q⟩
  cases fl with
  | ret u =>
    obtain ⟨v, σ', H', J, rv, q⟩ := hs
    exact fin J rv q
  | next =>
    obtain ⟨σ', H', J, q⟩ := hs
    exact fin (v := V.non) (u := Value.none) J rfl q
  | brk =>
    obtain ⟨_, _, _, q⟩ := hs
    exact False.elim q
  | cont =>
    obtain ⟨_, _, _, q⟩ := hs
    exact False.elim q
end L2
namespace L2
open PySem PySem.Spec PyProof.Rows
section
variable {X : Cx} {x : Str} {p pos : Pos} {e : Expr} {es : List Expr} {t : TA} {id T : String} {r : List V → Hp → VK → Prop}
def tCB (r : List V → Hp → VK → Prop) (t : TA) : TE := fun σ H Q => t σ H fun vs H1 => r vs H1 Q
theorem pe_callB (hc : CallR X (.builtin id) r) (hg : Gl X x) (hm : X.mg x = none) (hv : bootBuiltins x = some (.builtin id)) (ha : PA X (e :: es) t) (hn : x ≠ "__name__" := by decide) (hdb : (x == ("__debug__" : Str)) = false := by decide)
    (he : starEach (e :: es) X.env = (false, eval e X.env) :: starEach es X.env := by rfl) (hpl : (backTo pos (starEach es X.env)).any (·.1) = false := by rfl) : PE X (.Call (.Name x p) (e :: es) [] pos) (tCB r t) := by
  intro pins s σ H Q I h
  refine wpAny_Call_Name_kw (ld_blt I hg hm hv ?_ hn hdb)
  exact PyProof.Rows.callWith_builtin1 (thn (ha pos pins s σ H _ I h) fun us s1 ⟨vs, H1, I1, r1, q1⟩ => hc pins s1 σ H1 vs us Q I1 r1 q1) he hpl
theorem pe_callTy (hc : CallR X (.type T) r) (hg : Gl X x) (hm : X.mg x = none) (hv : bootBuiltins x = some (.type T)) (ha : PA X (e :: es) t) (hn : x ≠ "__name__" := by decide) (hdb : (x == ("__debug__" : Str)) = false := by decide)
    (he : starEach (e :: es) X.env = (false, eval e X.env) :: starEach es X.env := by rfl) (hpl : (backTo pos (starEach es X.env)).any (·.1) = false := by rfl) : PE X (.Call (.Name x p) (e :: es) [] pos) (tCB r t) := by
  intro pins s σ H Q I h
  refine wpAny_Call_Name_kw (ld_blt I hg hm hv ?_ hn hdb)
  exact PyProof.Rows.callWith_type1 (thn (ha pos pins s σ H _ I h) fun us s1 ⟨vs, H1, I1, r1, q1⟩ => hc pins s1 σ H1 vs us Q I1 r1 q1) he hpl
end
end L2
namespace HT
open PySem PyProof.Rows
section
open PySem.SeqAt
open PySem.AutoSeq1 (wpAny_loadPart')
open PySem.MeetsSeq PySem.MeetsSeq2 PySem.MeetsSeq3
end
section
variable {prog : Program} {w : World} {A : Around} {E : Value → Shared → Prop} {s : Shared}
def sIx (n d : Nat) : Option Int → Nat
  | none => d
  | some v => if v < 0 then (v + (n : Int)).toNat else min v.toNat n
theorem sIx_nat (n d k : Nat) : sIx n d (some (k : Int)) = min k n := by
  show (if (k : Int) < 0 then ((k : Int) + (n : Int)).toNat else min (k : Int).toNat n) = min k n
  rw [if_neg (by omega), Int.toNat_natCast]
end
end HT
namespace L2
open PySem PySem.Spec PyProof.Rows
abbrev TO := St → Hp → (Option Int → Hp → Prop) → Prop
def PO (X : Cx) (e : Option Expr) (t : TO) : Prop :=
  ∀ (pins : List (Addr × Obj)) (s : Shared) (σ : St) (H : Hp) (Q : Option Int → Hp → Prop), Inv X pins σ H s → t σ H Q →
    wpAny (model X.prog X.w) X.A (evalPart e X.env) (fun u s' => ∃ o H', Inv X pins σ H' s' ∧ IsPart u o ∧ Q o H') X.xe s
def tNoPart : TO := fun _ H Q => Q none H
def tPart (t : TE) : TO := fun σ H Q => t σ H fun x H1 => ∃ i, x = .int i ∧ Q (some i) H1
theorem intsAre_of {ns : List Int} : ∀ {us : List Value}, Vals (ns.map V.int) us → IntsAre us ns := by
  induction ns with
  | nil => intro us r; rw [List.map_nil] at r; cases r; exact .nil
  | cons n ns ih =>
    intro us r
    rw [List.map_cons] at r
    cases r with
    | cons r1 r2 =>
      obtain ⟨t, e⟩ := r1
      subst e
      exact .cons n t (ih r2)
section
variable {X : Cx} {e : Expr} {te : TE} {lo hi : Option Expr} {tl th : TO} {pos p2 : Pos}
theorem po_none : PO X none tNoPart := by
  intro pins s σ H Q I h
  rw [evalPart_none]
  exact wpAny_pure ⟨none, H, I, .none, h⟩
theorem po_some (h : PE X e te) : PO X (some e) (tPart te) := by
  intro pins s σ H Q I hw
  rw [evalPart_some]
  refine thn (h pins s σ H _ I hw) fun u s1 ⟨x, H1, I1, r1, q1⟩ => ?_
  obtain ⟨i, rfl, q⟩ := q1
  obtain ⟨t, rfl⟩ := r1
  exact ⟨some i, H1, I1, .int i t, q⟩
def SlR (X : Cx) (r : V → Option Int → Option Int → Hp → VK → Prop) : Prop :=
  ∀ (pins : List (Addr × Obj)) (s : Shared) (σ : St) (H : Hp) (x : V) (v vl vu : Value) (lo hi : Option Int) (sl : Addr) (Q : VK), Inv X pins σ H s → RelV x v → s.heap.IsSliceOf sl vl vu .none → IsPart vl lo → IsPart vu hi → r x lo hi H Q →
    ∃ T id, typeLookup (.type T) "__getitem__" = pure (some (.builtin id)) ∧ s.TypeIs v T ∧ wpAny (model X.prog X.w) X.A (getItem v (.ref sl)) (EP X pins σ Q) X.xe s
def tSl (r : V → Option Int → Option Int → Hp → VK → Prop) (te : TE) (tl th : TO) : TE := fun σ H Q => te σ H fun x H1 => tl σ H1 fun l H2 => th σ H2 fun u H3 => r x l u H3 Q
theorem pe_slice {r : V → Option Int → Option Int → Hp → VK → Prop} (hr : SlR X r) (he : PE X e te) (hl : PO X lo tl) (hu : PO X hi th) : PE X (.Subscript e (.Slice lo hi none p2) pos) (tSl r te tl th) := by
  intro pins s σ H Q I h
  refine Subscript_ (thn (he pins s σ H _ I h) fun v s1 ⟨x, H1, I1, r1, q1⟩ => ?_)
  refine wpAny_Slice (thn (hl pins s1 σ H1 _ I1 q1) fun vl s2 ⟨l, H2, I2, pl, q2⟩ => thn (hu pins s2 σ H2 _ I2 q2) fun vu s3 ⟨u, H3, I3, pu, q3⟩ => ?_)
  rw [evalPart_none]
  refine wpAny_pure ?_
  have I4 : Inv X pins σ H3 { s3 with heap := s3.heap.push { cls := .type "slice", data := .fields #[vl, vu, .none] } } := I3.kept (t' := s3.toks) fun b ob q => Heap.get?_push_of_some _ q
  obtain ⟨T, id, hT, ht, hg⟩ := hr pins { s3 with heap := s3.heap.push { cls := .type "slice", data := .fields #[vl, vu, .none] } } σ H3 x v vl vu l u s3.heap.objs.size Q I4 r1 (Heap.IsSliceOf.new ..) pl pu q3
  show wpAny (model X.prog X.w) X.A (subscriptTail e (.Slice lo hi none p2) v (.ref s3.heap.objs.size)) (EP X pins σ Q) X.xe { s3 with heap := s3.heap.push { cls := .type "slice", data := .fields #[vl, vu, .none] } }
  exact tail_any (ops := [.ref s3.heap.objs.size, v]) ht hT hg (by with_unfolding_all rfl)
def cutV (xs : List V) (lo hi : Option Int) : List V := (xs.drop (HT.sIx xs.length 0 lo)).take (HT.sIx xs.length xs.length hi - HT.sIx xs.length 0 lo)
theorem cutV_length (xs : List V) (lo hi : Option Int) : (cutV xs lo hi).length ≤ xs.length := by
  unfold cutV
  rw [List.length_take, List.length_drop]
  omega
end
end L2
namespace L2
open PySem PySem.Spec PyProof.Rows
def ixN (n : Nat) (i : Int) : Option Nat := if 0 ≤ i then (if i < n then some i.toNat else none) else if -(n : Int) ≤ i then some (i + n).toNat else none
def atI {α : Type} (xs : List α) (i : Int) : Option α := (ixN xs.length i).bind fun j => xs[j]?
theorem ixN_seq {n : Nat} {i : Int} {j : Nat} (h : ixN n i = some j) : seqIndex? i n = some j ∧ j < n ∧ -(n : Int) ≤ i ∧ i < n := by
  unfold ixN at h
  by_cases h0 : 0 ≤ i
  · rw [if_pos h0] at h
    by_cases h1 : i < n
    · rw [if_pos h1] at h
      have e : i.toNat = j := Option.some.inj h
      exact ⟨by rw [seqIndex_of h0 h1, e], by omega, by omega, h1⟩
    · rw [if_neg h1] at h; cases h
  · rw [if_neg h0] at h
    by_cases h1 : -(n : Int) ≤ i
    · rw [if_pos h1] at h
      have e : (i + n).toNat = j := Option.some.inj h
      exact ⟨by rw [seqIndex_neg (by omega) h1, e], by omega, h1, by omega⟩
    · rw [if_neg h1] at h; cases h
theorem atI_get {α : Type} {xs : List α} {i : Int} {v : α} (h : atI xs i = some v) : ∃ j, seqIndex? i xs.length = some j ∧ xs[j]? = some v ∧ j < xs.length ∧ -(xs.length : Int) ≤ i ∧ i < xs.length := by
  unfold atI at h
  cases e : ixN xs.length i with
  | none => rw [e] at h; cases h
  | some j =>
    rw [e] at h
    obtain ⟨h1, h2, h3, h4⟩ := ixN_seq e
    exact ⟨j, h1, h, h2, h3, h4⟩
theorem atI_nat {α : Type} {xs : List α} {j : Nat} {v : α} (h : xs[j]? = some v) : atI xs (j : Int) = some v := by
  have hj : j < xs.length := (List.getElem?_eq_some_iff.mp h).1
  have e : ixN xs.length (j : Int) = some j := by
    unfold ixN
    rw [if_pos (by omega), if_pos (by omega)]; simp
  unfold atI; rw [e]; exact h
def PlainIx (b : Expr) : Prop := ∀ o i, subscripted b false o i = operate [o, i] (getItem o i)
def IxR (X : Cx) (r : R2) : Prop :=
  ∀ (value slice : Expr) (pins : List (Addr × Obj)) (s : Shared) (σ : St) (H : Hp) (x y : V) (v u : Value) (Q : VK), Inv X pins σ H s → RelV x v → RelV y u → r x y H Q →
    subscripted slice false v u = operate [v, u] (getItem v u) → wpAny (model X.prog X.w) X.A (subscriptTail value slice v u) (EP X pins σ Q) X.xe s
def MtR (X : Cx) (id : String) (r : V → List V → Hp → VK → Prop) : Prop :=
  ∀ (pins : List (Addr × Obj)) (s : Shared) (σ : St) (H : Hp) (x : V) (xs : List V) (v : Value) (us : List Value) (Q : VK), Inv X pins σ H s → RelV x v → Vals xs us → r x xs H Q →
    wpAny (model X.prog X.w) X.A (call (.builtin id) (v :: us)) (EP X pins σ Q) X.xe s
section
variable {X : Cx} {a b : Expr} {ta tb : TE} {pos : Pos}
theorem pe_ix {r : R2} (hr : IxR X r) (ha : PE X a ta) (hb : PE X b tb) (hs : PlainIx b) : PE X (.Subscript a b pos) (tOp r ta tb) := by
  intro pins s σ H Q I h
  exact Subscript_ (binT ha hb I h fun v u s2 x y H2 I2 rx ry q => hr a b pins s2 σ H2 x y v u Q I2 rx ry q (hs _ _))
def rIxL (K : PySem.W.Frag) : R2 := fun x y H Q => ∃ p xs i v, x = .ref p ∧ y = .int i ∧ SqL K H p xs ∧ atI xs i = some v ∧ Q v H
def rIxT (K : PySem.W.Frag) : R2 := fun x y H Q => ∃ p xs i v, x = .ref p ∧ y = .int i ∧ SqT K H p xs ∧ atI xs i = some v ∧ Q v H
theorem ix_list : IxR X (rIxL X.K) := by
  intro value slice pins s σ H x y v u Q I rx ry h hs
  obtain ⟨p, xs, i, z, rfl, rfl, hq, he, q⟩ := h
  cases rx
  obtain ⟨t, rfl⟩ := ry
  obtain ⟨its, r, pl, hz⟩ := I.list hq
  obtain ⟨j, h1, h2, h3, h4, h5⟩ := atI_get he
  obtain ⟨w, ew, rw'⟩ := r.get h2
  have hl := r.length
  have hn := line63
  have fin : EP X pins σ Q w s := ⟨z, H, I, rw', q⟩
  by_cases h0 : 0 ≤ i
  · have hj : i.toNat = j := by
      rw [seqIndex_of h0 h5] at h1
      exact Option.some.inj h1
    exact item_listR pl.isList h0 (by omega) (by rw [hj]; simpa using ew) fin hs
  · have hj : (i + (its.toArray.size : Int)).toNat = j := by
      rw [seqIndex_neg (by omega) h4] at h1
      rw [List.size_toArray, ← hl]
      exact Option.some.inj h1
    exact subscriptTail_builtinR (x := w) pl.isList.typeIs slot_list_getitem.lookup
      (wpAny_getItem_list_neg (Q := fun r s' => r = w ∧ EP X pins σ Q r s') pl.isList (by omega) (by rw [List.size_toArray] <;> omega) (by omega) (by rw [hj]; simpa using ew) ⟨rfl, fin⟩) hs
theorem ix_tup : IxR X (rIxT X.K) := by
  intro value slice pins s σ H x y v u Q I rx ry h hs
  obtain ⟨p, xs, i, z, rfl, rfl, hq, he, q⟩ := h
  cases rx
  obtain ⟨t, rfl⟩ := ry
  obtain ⟨its, r, pl, hz⟩ := I.tuple hq
  obtain ⟨j, h1, h2, h3, h4, h5⟩ := atI_get he
  obtain ⟨w, ew, rw'⟩ := r.get h2
  have hl := r.length
  have hn := line63
  have fin : EP X pins σ Q w s := ⟨z, H, I, rw', q⟩
  exact subscriptTail_builtinR (x := w) pl.typeIs slot_tuple_getitem.lookup
    (getItem_tuple (j := j) (Q := fun r s' => r = w ∧ EP X pins σ Q r s') pl (by omega) (by omega) (by rw [List.size_toArray, ← hl]; exact h1) (by simpa using ew) ⟨rfl, fin⟩) hs
theorem mapSeq_set (its : List Value) (n j : Nat) (u : Value) : Obj.mapSeq (·.setIfInBounds j u) { cls := .type "list", data := .seq its.toArray n } = { cls := .type "list", data := .seq (its.set j u).toArray n } := by
  simp [Obj.mapSeq]
theorem Inv.lst {pins : List (Addr × Obj)} {σ : St} {H : Hp} {s : Shared} {p : Addr} {xs : List V} (I : Inv X pins σ H s) (h : H p = some (.lst xs)) :
    ∃ (its : List Value) (n : Nat), Vals xs its ∧ s.heap.get? p = some { cls := .type "list", data := .seq its.toArray n } ∧ xs.length ≤ sizeLine := by
  obtain ⟨z, its, n, r, e⟩ := I.hok p _ h
  exact ⟨its, n, r, e, z⟩
theorem Inv.lstUpd {pins : List (Addr × Obj)} {σ : St} {H : Hp} {s : Shared} {p : Addr} {xs ys : List V} {its its' : List Value} {n n' : Nat} {f : Obj → Obj} (I : Inv X pins σ H s) (h : H p = some (.lst xs))
    (ho : s.heap.get? p = some { cls := .type "list", data := .seq its.toArray n }) (hf : f { cls := .type "list", data := .seq its.toArray n } = { cls := .type "list", data := .seq its'.toArray n' }) (r : Vals ys its') (hz : ys.length ≤ sizeLine) (t : Nat) :
    Inv X pins σ (upd H p (.lst ys)) { s with heap := s.heap.update p f, toks := t } := by
  have e : (s.heap.update p f).get? p = some { cls := .type "list", data := .seq its'.toArray n' } := by
    rw [Heap.get?_update_self f ho (by rw [hf] <;> rfl), hf]
  refine I.write (x := p) (e := p) (by rw [h]; trivial) (.inl rfl) (fun b u hb q => (Heap.get?_update_other _ _ (Ne.symm hb)).trans q) ⟨_, e⟩ ?_
  exact ⟨hz, its', n', r, e⟩
def rSetL : V → V → V → Hp → (Hp → Prop) → Prop := fun o i v H Q => ∃ p xs k j, o = .ref p ∧ i = .int k ∧ H p = some (.lst xs) ∧ ixN xs.length k = some j ∧ Q (upd H p (.lst (xs.set j v)))
theorem set_list : PSet X rSetL := by
  intro pins s σ H o i v ov iv u Q I ro ri rv h
  obtain ⟨p, xs, k, j, rfl, rfl, hp, hj, q⟩ := h
  cases ro
  obtain ⟨t, rfl⟩ := ri
  obtain ⟨its, n, r, ho, hz⟩ := I.lst hp
  obtain ⟨h1, h2, h3, h4⟩ := ixN_seq hj
  have hl := r.length
  have hn := line63
  have I' : Inv X pins σ (upd H p (.lst (xs.set j v))) { s with heap := s.heap.update p (Obj.mapSeq (·.setIfInBounds j u)) } :=
    I.lstUpd hp ho (mapSeq_set its n j u) (r.set rv j) (by rw [List.length_set]; exact hz) s.toks
  by_cases h0 : 0 ≤ k
  · have hk : k.toNat = j := by
      rw [seqIndex_of h0 h4] at h1
      exact Option.some.inj h1
    exact PySem.W.ki_setAt ho h0 (by omega) (by rw [List.size_toArray, ← hl]; exact h4) (by rw [hk]; exact ⟨_, I', q⟩)
  · have hk : (k + (its.toArray.size : Int)).toNat = j := by
      rw [seqIndex_neg (by omega) h3] at h1
      rw [List.size_toArray, ← hl]
      exact Option.some.inj h1
    exact PySem.W.ki_setBack ho (by omega) (by rw [List.size_toArray, ← hl]; exact h3) (by omega) (by rw [hk]; exact ⟨_, I', q⟩)
theorem slice_bounds (lo hi : Option Int) (n : Nat) : (sliceBounds lo hi none n).1 = ((HT.sIx n 0 lo : Nat) : Int) ∧ (sliceBounds lo hi none n).2.1 = ((HT.sIx n n hi : Nat) : Int) ∧ (sliceBounds lo hi none n).2.2 = 1 := by
  refine ⟨?_, ?_, rfl⟩
  · cases lo with
    | none => simp [sliceBounds, HT.sIx]
    | some i =>
      simp only [sliceBounds, HT.sIx, Option.getD_none, show (1 : Int) > 0 by decide, if_true]
      by_cases h : i < 0
      · simp only [h, if_true] <;> omega
      · simp only [h, if_false] <;> omega
  · cases hi with
    | none => simp [sliceBounds, HT.sIx]
    | some i =>
      simp only [sliceBounds, HT.sIx, Option.getD_none, show (1 : Int) > 0 by decide, if_true]
      by_cases h : i < 0
      · simp only [h, if_true] <;> omega
      · simp only [h, if_false] <;> omega
theorem slicePick_cut (its : List Value) (lo hi : Option Int) : slicePick its.toArray lo hi none = ((its.drop (HT.sIx its.length 0 lo)).take (HT.sIx its.length its.length hi - HT.sIx its.length 0 lo)).toArray := by
  obtain ⟨h1, h2, h3⟩ := slice_bounds lo hi its.toArray.size
  unfold slicePick
  rw [h1, h2, h3]
  simp only [sliceRange_one, pick_run, List.size_toArray] <;> rfl
def rSlL (K : PySem.W.Frag) : V → Option Int → Option Int → Hp → VK → Prop := fun x lo hi H Q => ∃ a xs, x = .ref a ∧ SqL K H a xs ∧ ∀ p, H p = none → Q (.ref p) (upd H p (.lst (cutV xs lo hi)))
theorem sl_list : SlR X (rSlL X.K) := by
  intro pins s σ H x v vl vu lo hi sl Q I rx hs pl pu h
  obtain ⟨a, xs, rfl, hx, q⟩ := h
  cases rx
  obtain ⟨its, r, ht, hz⟩ := I.list hx
  have hlen := r.length
  refine ⟨"list", _, slot_list_getitem.lookup, ht.isList.typeIs, ?_⟩
  refine wpAny_getItem_list_slice ht.isList hs pl pu .none (by simp) ?_ (by rw [List.size_toArray] <;> omega)
  rw [slicePick_cut, ← hlen]
  refine ⟨.ref s.heap.objs.size, _, I.laid (t' := s.toks) (o := .lst (cutV xs lo hi)) (fun b ob q => Heap.get?_push_of_some _ q) (Nat.le_refl _) ?_, rfl, q _ (I.hok.fresh (Nat.le_refl _))⟩
  exact ⟨Nat.le_trans (cutV_length xs lo hi) hz, _, 0, (r.drop (HT.sIx xs.length 0 lo)).take (HT.sIx xs.length xs.length hi - HT.sIx xs.length 0 lo), Heap.get?_push_size _ rfl⟩
def flatV : V → Bool
  | .non => true
  | .bl _ => true
  | .int _ => true
  | .str _ => true
  | _ => false
def eqV : V → V → Bool
  | .non, .non => true
  | .bl a, .bl b => a == b
  | .bl a, .int b => (if a then 1 else 0) == b
  | .int a, .bl b => a == (if b then 1 else 0)
  | .int a, .int b => a == b
  | .str a, .str b => a == b
  | _, _ => false
theorem eqAt_V {A : Around} {s : Shared} {y x : V} {u v : Value} (ry : RelV y u) (rx : RelV x v) (fy : flatV y = true) (fx : flatV x = true) : SeqAt.EqAt A s u v (eqV y x) := by
  cases y with
  | non =>
    cases ry
    cases x with
    | non => cases rx; exact SeqAt.EqAt.same _
    | bl b => cases rx; exact SeqAt.EqAt.none_bool b
    | int b => obtain ⟨t, rfl⟩ := rx; exact SeqAt.EqAt.none_int b t
    | str b => obtain ⟨t, rfl⟩ := rx; exact SeqAt.EqAt.none_str b t
    | _ => exact absurd (show false = true from fx) Bool.false_ne_true
  | bl a =>
    cases ry
    cases x with
    | non => cases rx; exact SeqAt.EqAt.bool_none a
    | bl b => cases rx; exact SeqAt.EqAt.bool_bool a b
    | int b => obtain ⟨t, rfl⟩ := rx; exact SeqAt.EqAt.bool_int a b t
    | str b => obtain ⟨t, rfl⟩ := rx; exact SeqAt.EqAt.bool_str a b t
    | _ => exact absurd (show false = true from fx) Bool.false_ne_true
  | int a =>
    obtain ⟨t', rfl⟩ := ry
    cases x with
    | non => cases rx; exact SeqAt.EqAt.int_none a t'
    | bl b => cases rx; exact SeqAt.EqAt.int_bool a t' b
    | int b => obtain ⟨t, rfl⟩ := rx; exact SeqAt.EqAt.int_int a t' b t
    | str b => obtain ⟨t, rfl⟩ := rx; exact SeqAt.EqAt.int_str a t' b t
    | _ => exact absurd (show false = true from fx) Bool.false_ne_true
  | str a =>
    obtain ⟨t', rfl⟩ := ry
    cases x with
    | non => cases rx; exact SeqAt.EqAt.str_none a t'
    | bl b => cases rx; exact SeqAt.EqAt.str_bool a t' b
    | int b => obtain ⟨t, rfl⟩ := rx; exact SeqAt.EqAt.str_int a t' b t
    | str b => obtain ⟨t, rfl⟩ := rx; exact SeqAt.EqAt.str_str a t' b t
    | _ => exact absurd (show false = true from fx) Bool.false_ne_true
  | _ => exact absurd (show false = true from fy) Bool.false_ne_true
def eqU (x : V) (u : Value) : Bool := match u with
  | .none => eqV .non x
  | .bool b => eqV (.bl b) x
  | .int i _ => eqV (.int i) x
  | .str z _ => eqV (.str z) x
  | _ => false
theorem eqU_of {x y : V} {u : Value} (r : RelV y u) (f : flatV y = true) : eqU x u = eqV y x := by
  cases y with
  | non => cases r; rfl
  | bl b => cases r; rfl
  | int i => obtain ⟨t, rfl⟩ := r; rfl
  | str z => obtain ⟨t, rfl⟩ := r; rfl
  | _ => exact absurd (show false = true from f) Bool.false_ne_true
theorem any_eqU {x : V} : ∀ {xs : List V} {us : List Value}, Vals xs us → xs.all flatV = true → us.any (eqU x) = xs.any fun y => eqV y x
  | _, _, .nil, _ => rfl
  | y :: xs, u :: us, .cons r t, f => by
    rw [List.all_cons, Bool.and_eq_true] at f
    rw [List.any_cons, List.any_cons, eqU_of r f.1, any_eqU t f.2]
theorem mem_eqAt {A : Around} {s : Shared} {x : V} {v : Value} (rx : RelV x v) (fx : flatV x = true) : ∀ {xs : List V} {us : List Value}, Vals xs us → xs.all flatV = true → ∀ u ∈ us, SeqAt.EqAt A s u v (eqU x u)
  | _, _, .nil, _ => fun u hu => by cases hu
  | y :: xs, u :: us, .cons r t, f => fun u' hu => by
    rw [List.all_cons, Bool.and_eq_true] at f
    rcases List.mem_cons.mp hu with rfl | hu
    · rw [eqU_of r f.1]; exact eqAt_V r rx f.1 fx
    · exact mem_eqAt rx fx t f.2 u' hu
def inV (x : V) (xs : List V) : Bool := xs.any fun y => eqV y x
def rIn (K : PySem.W.Frag) (neg : Bool) : R2 := fun x y H Q => ∃ p xs, y = .ref p ∧ (SqL K H p xs ∨ SqT K H p xs) ∧ flatV x = true ∧ xs.all flatV = true ∧ Q (.bl (if neg then !inV x xs else inV x xs)) H
theorem op_in_seq : OpR X (compareOp .In) (rIn X.K false) := by
  intro pins s σ H x y v u Q I rx ry h
  obtain ⟨p, xs, rfl, hq, fx, fs, q⟩ := h
  cases ry
  rcases hq with hq | hq
  · obtain ⟨its, r, pl, hz⟩ := I.list hq
    refine SeqAt.in_listAt (eqU x) pl.isList (fun w hw => mem_eqAt rx fx r fs w (by simpa using hw)) ⟨.bl _, H, I, rfl, ?_⟩
    rw [show its.toArray.any (eqU x) = its.any (eqU x) by simp, any_eqU r fs]
    exact q
  · obtain ⟨its, r, pl, hz⟩ := I.tuple hq
    refine SeqAt.in_tupleAt (eqU x) pl (fun w hw => mem_eqAt rx fx r fs w (by simpa using hw)) ⟨.bl _, H, I, rfl, ?_⟩
    rw [show its.toArray.any (eqU x) = its.any (eqU x) by simp, any_eqU r fs]
    exact q
theorem op_notIn_seq : OpR X (compareOp .NotIn) (rIn X.K true) := by
  intro pins s σ H x y v u Q I rx ry h
  obtain ⟨p, xs, rfl, hq, fx, fs, q⟩ := h
  cases ry
  rcases hq with hq | hq
  · obtain ⟨its, r, pl, hz⟩ := I.list hq
    refine SeqAt.notIn_listAt (eqU x) pl.isList (fun w hw => mem_eqAt rx fx r fs w (by simpa using hw)) ⟨.bl _, H, I, rfl, ?_⟩
    rw [show its.toArray.any (eqU x) = its.any (eqU x) by simp, any_eqU r fs]
    exact q
  · obtain ⟨its, r, pl, hz⟩ := I.tuple hq
    refine SeqAt.notIn_tupleAt (eqU x) pl (fun w hw => mem_eqAt rx fx r fs w (by simpa using hw)) ⟨.bl _, H, I, rfl, ?_⟩
    rw [show its.toArray.any (eqU x) = its.any (eqU x) by simp, any_eqU r fs]
    exact q
theorem call_len_seq : CallR X (.builtin "len") (fun xs H Q => ∃ p ys, xs = [.ref p] ∧ (SqL X.K H p ys ∨ SqT X.K H p ys) ∧ Q (.int ys.length) H) := by
  intro pins s σ H xs us Q I r h
  obtain ⟨p, ys, rfl, hq, q⟩ := h
  obtain ⟨u, rfl, rx⟩ := vals1 r
  cases rx
  have hn := line63
  rcases hq with hq | hq
  · obtain ⟨its, r', pl, hz⟩ := I.list hq
    have hlen := r'.length
    exact Calls.call_len_list pl.isList (by simp only [List.size_toArray] <;> omega) ⟨.int ys.length, H, I.tok _, ⟨s.toks + 1, by rw [List.size_toArray, hlen]⟩, q⟩
  · obtain ⟨its, r', pl, hz⟩ := I.tuple hq
    have hlen := r'.length
    exact len_tuple pl (by simp only [List.size_toArray] <;> omega) ⟨.int ys.length, H, I.tok _, ⟨s.toks + 1, by rw [List.size_toArray, hlen]⟩, q⟩
def tyV (K : PySem.W.Frag) (T : String) (x : V) (H : Hp) : Prop := match x with
  | .str _ => T = "str"
  | .int _ => T = "int"
  | .ref p => (T = "list" ∧ ∃ xs, SqL K H p xs) ∨ (T = "tuple" ∧ ∃ o, K.lookup p = some o ∧ o.cls = .type "tuple" ∧ o.dict = none) ∨
      (T = "dict" ∧ ((∃ kvs, H p = some (.dK kvs)) ∨ ∃ kvs, H p = some (.dT kvs))) ∨ (T = "set" ∧ ∃ S n, H p = some (.set S n))
  | _ => False
theorem tyV_is {pins : List (Addr × Obj)} {σ : St} {H : Hp} {s : Shared} {T : String} {x : V} {v : Value} (I : Inv X pins σ H s) (r : RelV x v) (ty : tyV X.K T x H) :
    s.TypeIs v T ∧ ∀ a, v = .ref a → ∃ ob, s.heap.get? a = some ob ∧ ob.dict = none := by
  cases x with
  | str z =>
    obtain ⟨t, rfl⟩ := r
    cases (show T = "str" from ty)
    exact ⟨typeIs_str s z t, fun _ e => nomatch e⟩
  | int i =>
    obtain ⟨t, rfl⟩ := r
    cases (show T = "int" from ty)
    exact ⟨typeIs_int s i t, fun _ e => nomatch e⟩
  | ref p =>
    cases r
    rcases ty with ⟨rfl, xs, hq⟩ | ⟨rfl, o, hk, hc, hd⟩ | ⟨rfl, hk⟩ | ⟨rfl, S, n, hk⟩
    · obtain ⟨its, _, pl, _⟩ := I.list hq
      refine ⟨pl.isList.typeIs, fun a e => ?_⟩
      cases e
      obtain ⟨o, n, e, c, hd, _⟩ := pl
      exact ⟨o, e, hd⟩
    · refine ⟨⟨o, I.kIn p o hk, hc⟩, fun a e => ?_⟩
      cases e
      exact ⟨o, I.kIn _ o hk, hd⟩
    · have z : ∃ o, s.heap.get? p = some o ∧ o.ExactDict := by
        rcases hk with ⟨kvs, hk⟩ | ⟨kvs, hk⟩
        · obtain ⟨_, _, _, _, o, _, _, e, ex, _⟩ := I.hok p _ hk
          exact ⟨o, e, ex⟩
        · obtain ⟨_, _, _, _, o, _, _, e, ex, _⟩ := I.hok p _ hk
          exact ⟨o, e, ex⟩
      obtain ⟨o, e, ex⟩ := z
      refine ⟨⟨o, e, ex.1⟩, fun a e2 => ?_⟩
      cases e2
      exact ⟨o, e, ex.2.1⟩
    · obtain ⟨o, _, _, _, e, ex, _⟩ := I.hok p _ hk
      refine ⟨⟨o, e, ex.1⟩, fun a e2 => ?_⟩
      cases e2
      exact ⟨o, e, ex.2.1⟩
  | _ => exact False.elim ty
def tBM (K : PySem.W.Frag) (T : String) (r : V → List V → Hp → VK → Prop) (to : TE) (t : TA) : TE := fun σ H Q => to σ H fun x H1 => tyV K T x H1 ∧ t σ H1 fun xs H2 => r x xs H2 Q
variable {o e : Expr} {es : List Expr} {to : TE} {t : TA} {name : Str} {apos cpos : Pos} {T id : String} {r : V → List V → Hp → VK → Prop}
theorem pe_bm (pa : PlainAttrs T) (slot : Slot T name id) (hty : typeOf (.builtin id) = pure (.type "method_descriptor")) (hm : MtR X id r) (ho : PE X o to) (ha : PA X (e :: es) t)
    (hbase : attributeBase o name X.env (eval o X.env) = eval o X.env := by rfl)
    (hfew : ((backTo cpos (starEach (e :: es) X.env)).all (fun x => !x.1) && (backToKw cpos (keywordEach [] X.env)).all (fun x => x.1.isSome)
      && decide ((e :: es).length + ([] : List Keyword).length + (if ([] : List Keyword).isEmpty then 0 else 1) < 30)) = true := by rfl)
    (hline : (apos.endLine == cpos.line) = true := by rfl) (hs : starEach (e :: es) X.env = (false, eval e X.env) :: starEach es X.env := by rfl) (hplain : (backTo cpos (starEach es X.env)).any (·.1) = false := by rfl) :
    PE X (.Call (.Attribute o name apos) (e :: es) [] cpos) (tBM X.K T r to t) := by
  intro pins s σ H Q I h
  refine wpAny_Call_method_late hbase hfew hline rfl (thn (ho pins s σ H _ I h) fun v s1 ⟨x, H1, I1, r1, ty, q1⟩ => ?_)
  obtain ⟨h1, h2⟩ := tyV_is I1 r1 ty
  refine ⟨T, id, pa, slot, hty, h1, h2, ?_⟩
  have hA := ha cpos pins s1 σ H1 _ I1 q1
  rw [hs] at hA ⊢
  refine Calls.callWith_builtin (by show (false || (backTo cpos (starEach es X.env)).any (·.1)) = false; rw [hplain] <;> rfl) (Calls.evalArgs_plain ?_)
  exact thn hA fun us s2 ⟨vs, H2, I2, r2, q2⟩ => hm pins s2 σ H2 x vs v us Q I2 r1 r2 q2
/- xs.append(e), list.index on a module's tuple .. are MtR facts of 06m -/
end
end L2
namespace L2
open PySem PySem.Spec PyProof.Rows
def MtM (X : Cx) (id : String) (r : V → List V → Hp → VK → Prop) : Prop :=
  ∀ (pins : List (Addr × Obj)) (s : Shared) (σ : St) (H : Hp) (x : V) (xs : List V) (v : Value) (us : List Value) (Q : VK), Inv X pins σ H s → RelV x v → Vals xs us → r x xs H Q →
    wpAny (model X.prog X.w) X.A (call (.builtin id) (v :: us)) (EP X pins σ Q) X.xe s
theorem Vals.one : ∀ {x : V} {us : List Value}, Vals [x] us → ∃ u, us = [u] ∧ RelV x u
  | _, _, .cons r .nil => ⟨_, rfl, r⟩
theorem Vals.rep {xs : List V} {us : List Value} (h : Vals xs us) : ∀ k : Nat, Vals (List.replicate k xs).flatten (List.replicate k us).flatten
  | 0 => .nil
  | k + 1 => by
    rw [List.replicate_succ, List.replicate_succ, List.flatten_cons, List.flatten_cons]
    exact Vals.append h (Vals.rep h k)
theorem foldl_rep (its : List Value) : ∀ (k : Nat) (acc : List Value),
    List.foldl (fun x1 x2 => x1 ++ x2) acc.toArray (List.replicate k its.toArray) = (acc ++ (List.replicate k its).flatten).toArray
  | 0, acc => by simp
  | k + 1, acc => by
    have e : acc.toArray ++ its.toArray = (acc ++ its).toArray := by simp
    have e2 : (acc ++ its) ++ (List.replicate k its).flatten = acc ++ (List.replicate (k + 1) its).flatten := by
      rw [List.replicate_succ, List.flatten_cons, List.append_assoc]
    rw [← e2, ← foldl_rep its k (acc ++ its), ← e, List.replicate_succ, List.foldl_cons]
section
variable {X : Cx} {pins : List (Addr × Obj)} {σ : St} {H : Hp} {s : Shared} {l b : Addr} {xs ys zs : List V}
theorem Inv.lset {its its' : List Value} {n : Nat} {f : Array Value → Array Value} {t' : Nat} (I : Inv X pins σ H s) (hH : H l = some (.lst xs))
    (e : s.heap.get? l = some { cls := .type "list", data := .seq its.toArray n }) (hf : f its.toArray = its'.toArray) (hv : Vals ys its') (hz : ys.length ≤ sizeLine) :
    Inv X pins σ (upd H l (.lst ys)) { s with heap := s.heap.update l (Obj.mapSeq f), toks := t' } := by
  have q := PySem.IsL.update e f
  rw [hf] at q
  refine I.write (x := l) (e := l) (by rw [hH]; exact trivial) (.inl rfl) (fun b' u hb hu => (Heap.get?_update_other s.heap (Obj.mapSeq f) (Ne.symm hb)).trans hu) ⟨_, q⟩ ?_
  exact ⟨hz, its', _, hv, q⟩
theorem Inv.lnew {its : List Value} {t' : Nat} (I : Inv X pins σ H s) (hv : Vals ys its) (hz : ys.length ≤ sizeLine) :
    Inv X pins σ (upd H s.heap.objs.size (.lst ys)) { s with heap := s.heap.push { cls := .type "list", data := .seq its.toArray }, toks := t' } :=
  I.laid (fun _ _ q => Heap.get?_push_of_some _ q) (Nat.le_refl _) ⟨hz, its, 0, hv, Heap.get?_push_size _ rfl⟩
theorem Inv.fresh (I : Inv X pins σ H s) : H s.heap.objs.size = none := I.hok.fresh (Nat.le_refl _)
theorem Inv.lstM (I : Inv X pins σ H s) (hH : H l = some (.lst xs)) : xs.length ≤ sizeLine ∧ ∃ (its : List Value) (n : Nat), Vals xs its ∧ xs.length = its.length ∧ s.heap.get? l = some { cls := .type "list", data := .seq its.toArray n } := by
  obtain ⟨z, its, n, r, e⟩ := I.hok l _ hH
  exact ⟨z, its, n, r, r.length, e⟩
theorem notLongL {n : Nat} (h : n ≤ sizeLine) : Builtin.List.listTooLong n = false := by
  unfold Builtin.List.listTooLong
  exact decide_eq_false (by omega)
end
section
variable {X : Cx}
def rAppend : V → List V → Hp → VK → Prop := fun x vs H Q => ∃ l xs y, x = .ref l ∧ vs = [y] ∧ H l = some (.lst xs) ∧ xs.length < sizeLine ∧ Q .non (upd H l (.lst (xs ++ [y])))
theorem mt_append : MtM X "list.append" rAppend := by
  intro pins s σ H x vs v us Q I rx rv h
  obtain ⟨l, xs, y, rfl, rfl, hH, hz, q⟩ := h
  cases rx
  obtain ⟨u, rfl, ru⟩ := rv.one
  obtain ⟨z, its, n, r, hl, e⟩ := I.lstM hH
  refine call_meets F.slot_list_append ⟨_, e, rfl⟩ F.entry_list_append (F.args_list_append_2 _ _) (PySem.list_append l its.toArray n u (by rw [List.size_toArray]; omega)) ⟨e, ?_⟩
  refine ⟨.non, _, I.lset (its' := its ++ [u]) hH e (by simp) (r.append (.cons ru .nil)) ?_, rfl, q⟩
  rw [List.length_append, List.length_singleton]
  omega
def rExtend : V → List V → Hp → VK → Prop := fun x vs H Q => ∃ l b xs zs, x = .ref l ∧ vs = [.ref b] ∧ H l = some (.lst xs) ∧ H b = some (.lst zs) ∧ xs.length + zs.length ≤ sizeLine ∧ Q .non (upd H l (.lst (xs ++ zs)))
theorem mt_extend : MtM X "list.extend" rExtend := by
  intro pins s σ H x vs v us Q I rx rv h
  obtain ⟨l, b, xs, zs, rfl, rfl, hH, hB, hz, q⟩ := h
  cases rx
  obtain ⟨u, rfl, ru⟩ := rv.one
  cases ru
  obtain ⟨z, its, n, r, hl, e⟩ := I.lstM hH
  obtain ⟨z2, its2, n2, r2, hl2, e2⟩ := I.lstM hB
  have hsz : its.toArray.size + its2.toArray.size ≤ sizeLine := by rw [List.size_toArray, List.size_toArray]; omega
  have hlong : ¬ (!its.toArray.isEmpty && Builtin.List.listTooLong (its.toArray.size + its2.toArray.size)) = true := by
    rw [notLongL hsz, Bool.and_false]
    exact Bool.false_ne_true
  refine call_meets F.slot_list_extend ⟨_, e, rfl⟩ F.entry_list_extend (F.args_list_extend_2 _ _)
    (AutoSeq1.list_extend_list_list_0 l its.toArray n b its2.toArray n2 hlong (by rw [List.size_toArray]; omega) (by omega)) ⟨e, e2, ?_⟩
  refine ⟨.non, _, I.lset (its' := its ++ its2) hH e (by simp) (r.append r2) ?_, rfl, q⟩
  rw [List.length_append]
  omega
def rCat : R2 := fun x y H Q => ∃ l b xs zs, x = .ref l ∧ y = .ref b ∧ H l = some (.lst xs) ∧ H b = some (.lst zs) ∧ xs.length + zs.length ≤ sizeLine ∧ ∀ p, H p = none → Q (.ref p) (upd H p (.lst (xs ++ zs)))
theorem op_cat : OpR X (binaryOp .Add) rCat := by
  intro pins s σ H x y v u Q I rx ry h
  obtain ⟨l, b, xs, zs, rfl, rfl, hH, hB, hz, q⟩ := h
  cases rx
  cases ry
  obtain ⟨z, its, n, r, hl, e⟩ := I.lstM hH
  obtain ⟨z2, its2, n2, r2, hl2, e2⟩ := I.lstM hB
  refine PySem.P.add_list e e2 ?_ (by rw [List.size_toArray, List.size_toArray]; omega)
  have ea : its.toArray ++ its2.toArray = (its ++ its2).toArray := by simp
  rw [ea]
  exact ⟨.ref _, _, I.lnew (t' := s.toks) (r.append r2) (by rw [List.length_append]; omega), rfl, q _ I.fresh⟩
def rRep : R2 := fun x y H Q => ∃ l k xs, x = .ref l ∧ y = .int k ∧ H l = some (.lst xs) ∧ -(2 ^ 63) ≤ k ∧ k < 2 ^ 63 ∧ xs.length * k.toNat ≤ sizeLine ∧
  ∀ p, H p = none → Q (.ref p) (upd H p (.lst (List.replicate k.toNat xs).flatten))
theorem len_rep {α : Type} (xs : List α) (k : Nat) : (List.replicate k xs).flatten.length = k * xs.length := by
  induction k with
  | zero => simp
  | succ k ih => rw [List.replicate_succ, List.flatten_cons, List.length_append, ih, Nat.succ_mul, Nat.add_comm]
theorem op_rep : OpR X (binaryOp .Mult) rRep := by
  intro pins s σ H x y v u Q I rx ry h
  obtain ⟨l, k, xs, rfl, rfl, hH, h1, h2, hz, q⟩ := h
  cases rx
  obtain ⟨t, rfl⟩ := ry
  obtain ⟨z, its, n, r, hl, e⟩ := I.lstM hH
  have hlen : its.toArray.size * k.toNat ≤ sizeLine := by rw [List.size_toArray, ← hl]; exact hz
  have hcap : ¬ its.toArray.size * k.toNat > (2 ^ 63 - 1) / 8 := by
    have : (sizeLine : Nat) ≤ (2 ^ 63 - 1) / 8 := by decide
    omega
  have hfit : ¬ (!Builtin.List.listFitsIndex k) = true := by
    rw [fitsIndex_both h1 h2]
    exact Bool.false_ne_true
  have hlong : ¬ Builtin.List.listTooLong (its.toArray.size * k.toNat) = true := by
    rw [notLongL hlen]
    exact Bool.false_ne_true
  have hnew : List.foldl (fun x1 x2 => x1 ++ x2) #[] (List.replicate (if its.toArray.isEmpty = true then 0 else k.toNat) its.toArray) = (List.replicate k.toNat its).flatten.toArray := by
    have f0 : ∀ m : Nat, List.foldl (fun x1 x2 => x1 ++ x2) #[] (List.replicate m its.toArray) = (List.replicate m its).flatten.toArray := fun m => by
      have := foldl_rep its m []
      rw [List.nil_append] at this
      exact this
    rw [f0]
    cases its with
    | nil => simp
    | cons a r' => rw [if_neg (by simp)]
  refine wpAny_binaryOp_repeat_ref (T := "list") (U := "int") (by decide) ⟨_, e, rfl⟩ (fun s' => typeIs_int s' k t) noFill_list_mul F.fills_int_mul F.slot_int_rmul repeat_list F.slot_int_index.lookup
    (call_meets F.slot_int_rmul (typeIs_int s k t) F.entry_int_rmul (F.args_int_rmul_2 _ _) (int___rmul___int_list k t l its.toArray n)
      ⟨e, rfl, ⟨_, e, rfl⟩, call_meets F.slot_list_mul ⟨_, e, rfl⟩ F.entry_list_mul (F.args_list_mul_2 _ _) (AutoListH.list___mul___list_int_3 l its.toArray n k t hfit hcap hlong) ⟨e, ?_⟩⟩)
  rw [hnew]
  exact ⟨.ref _, _, I.lnew (t' := s.toks) (r.rep k.toNat) (by rw [len_rep, Nat.mul_comm]; exact hz), rfl, q _ I.fresh⟩
end
section
variable {prog : Program} {w : World} {A : Around} {E : Value → Shared → Prop} {s : Shared}
end
section
variable {X : Cx}
end
end L2
namespace L2
open PySem PySem.Spec PyProof.Rows
theorem Vals.ints : ∀ {ns : List Int} {us : List Value}, Vals (ns.map V.int) us → IntsAre us ns
  | [], us, h => by
    rw [List.map_nil] at h
    cases h
    exact IntsAre.nil
  | n :: ns, us, h => by
    rw [List.map_cons] at h
    cases h with
    | cons r t =>
      obtain ⟨k, rfl⟩ := r
      exact IntsAre.cons n k (Vals.ints t)
theorem Vals.bls : ∀ {bs : List Bool} {us : List Value}, Vals (bs.map V.bl) us → us = bs.map Value.bool
  | [], us, h => by
    rw [List.map_nil] at h
    cases h
    rfl
  | b :: bs, us, h => by
    rw [List.map_cons] at h
    cases h with
    | cons r t =>
      cases r
      rw [Vals.bls t, List.map_cons]
theorem Vals.ref1 {a : Addr} {us : List Value} (r : Vals [V.ref a] us) : us = [Value.ref a] := by
  cases r with
  | cons r t =>
    cases t
    cases r
    rfl
section
variable {prog : Program} {w : World} {A : Around} {E : Value → Shared → Prop} {s : Shared} {l : Addr} {its : List Value} {ns : List Int} {Q : Value → Shared → Prop}
theorem max_raw (hh : A.handled = none) (hl : s.heap.IsList l its.toArray) (hi : IntsAre its ns) (hne : 0 < ns.length)
    (h : ∀ h' tk M t', (∀ b o, s.heap.get? b = some o → h'.get? b = some o) → M ∈ ns → (∀ a, a ∈ ns → a ≤ M) → Q (.int M t') { s with heap := h', toks := tk }) : wpAny (model prog w) A (call (.builtin "max") [.ref l]) Q E s := by
  obtain ⟨xs, e⟩ := hi.allInts.items
  have hn : numsOf (intItems xs).toList = ns := by rw [← e]; exact hi.numsOf
  rw [nums_intItems] at hn
  subst hn
  rw [e] at hl
  have hsz : 0 < xs.size := by simpa using hne
  refine PySem.max_intList hh hl hsz fun v h' tk hv hk => ?_
  obtain ⟨t, rfl⟩ := intItems_at hv
  obtain ⟨h1, h2⟩ := argBest_gt (numAt xs) (xs.size - 1)
  refine h h' tk _ t hk ?_ fun a ha => ?_
  · rw [numAt_eq]; exact PySem.getD_mem (by rw [List.length_map, Array.length_toList]; omega)
  · obtain ⟨j, hj, rfl⟩ := mem_getD ha
    rw [List.length_map, Array.length_toList] at hj
    rw [← numAt_eq]; exact h2 j (by omega)
theorem min_raw (hh : A.handled = none) (hl : s.heap.IsList l its.toArray) (hi : IntsAre its ns) (hne : 0 < ns.length)
    (h : ∀ h' tk M t', (∀ b o, s.heap.get? b = some o → h'.get? b = some o) → M ∈ ns → (∀ a, a ∈ ns → M ≤ a) → Q (.int M t') { s with heap := h', toks := tk }) : wpAny (model prog w) A (call (.builtin "min") [.ref l]) Q E s := by
  obtain ⟨xs, e⟩ := hi.allInts.items
  have hn : numsOf (intItems xs).toList = ns := by rw [← e]; exact hi.numsOf
  rw [nums_intItems] at hn
  subst hn
  rw [e] at hl
  have hsz : 0 < xs.size := by simpa using hne
  refine PySem.min_intList hh hl hsz fun v h' tk hv hk => ?_
  obtain ⟨t, rfl⟩ := intItems_at hv
  obtain ⟨h1, h2⟩ := argBest_lt (numAt xs) (xs.size - 1)
  refine h h' tk _ t hk ?_ fun a ha => ?_
  · rw [numAt_eq]; exact PySem.getD_mem (by rw [List.length_map, Array.length_toList]; omega)
  · obtain ⟨j, hj, rfl⟩ := mem_getD ha
    rw [List.length_map, Array.length_toList] at hj
    rw [← numAt_eq]; exact h2 j (by omega)
end
section
variable {X : Cx}
def rMax (K : PySem.W.Frag) : List V → Hp → VK → Prop := fun vs H Q => ∃ (a : Addr) (ns : List Int), vs = [V.ref a] ∧ SqL K H a (ns.map V.int) ∧ 0 < ns.length ∧ ∀ m, m ∈ ns → (∀ y, y ∈ ns → y ≤ m) → Q (.int m) H
def rMin (K : PySem.W.Frag) : List V → Hp → VK → Prop := fun vs H Q => ∃ (a : Addr) (ns : List Int), vs = [V.ref a] ∧ SqL K H a (ns.map V.int) ∧ 0 < ns.length ∧ ∀ m, m ∈ ns → (∀ y, y ∈ ns → m ≤ y) → Q (.int m) H
theorem cr_max (hc : X.calm = true) : CallR X (.builtin "max") (rMax X.K) := by
  intro pins s σ H vs us Q I r h
  obtain ⟨a, ns, rfl, hs, hne, q⟩ := h
  obtain ⟨its, rv, hl, _⟩ := I.list hs
  rw [Vals.ref1 r]
  exact max_raw (I.ok.hd hc) hl.isList rv.ints hne fun h' tk m t' hk h1 h2 => ⟨.int _, H, I.kept hk, ⟨_, rfl⟩, q m h1 h2⟩
theorem cr_min (hc : X.calm = true) : CallR X (.builtin "min") (rMin X.K) := by
  intro pins s σ H vs us Q I r h
  obtain ⟨a, ns, rfl, hs, hne, q⟩ := h
  obtain ⟨its, rv, hl, _⟩ := I.list hs
  rw [Vals.ref1 r]
  exact min_raw (I.ok.hd hc) hl.isList rv.ints hne fun h' tk m t' hk h1 h2 => ⟨.int _, H, I.kept hk, ⟨_, rfl⟩, q m h1 h2⟩
end
section
variable {X : Cx}
def rIndex (K : PySem.W.Frag) : V → List V → Hp → VK → Prop := fun x xs H Q => ∃ (a : Addr) (ys : List V) (y : V) (j : Nat) (z : V), x = V.ref a ∧ xs = [y] ∧ SqL K H a ys ∧ flatV y = true ∧ ys.all flatV = true ∧ ys[j]? = some z ∧ eqV z y = true ∧
  (∀ (m : Nat) (z' : V), m < j → ys[m]? = some z' → eqV z' y = false) ∧ Q (.int (j : Nat)) H
theorem flat_at {ys : List V} (f : ys.all flatV = true) {j : Nat} {z : V} (h : ys[j]? = some z) : flatV z = true := List.all_eq_true.mp f z (List.mem_of_getElem? h)
theorem mt_index : MtR X "list.index" (rIndex X.K) := by
  intro pins s σ H x xs v us Q I rx rxs h
  obtain ⟨a, ys, y, j, z, rfl, rfl, hs, fy, fys, hz, hzj, hno, q⟩ := h
  cases rx
  cases rxs with
  | cons ry rt =>
    rename_i uy ut
    cases rt
    obtain ⟨its, rv, ⟨⟨cls, dd, data, sl⟩, n, ho, hc, hdn, hd⟩, hlen⟩ := I.list hs
    simp only at hc hd
    subst hc hd
    obtain ⟨u, hu, ru⟩ := rv.get hz
    obtain ⟨hjl, hje⟩ := List.getElem?_eq_some_iff.mp hu
    have hvl := rv.length
    have hj : j < its.toArray.size := by simpa using hjl
    have hsl := sizeLine_eq
    refine call_meets PySem.F.slot_list_index ⟨_, ho, rfl⟩ PySem.F.entry_list_index (PySem.F.args_list_index_2 _ _)
      (SeqAt.list_indexAt a its.toArray n dd sl uy (eqU y) j hj (by omega) ?_ ?_) ⟨ho, fun u' hu' => mem_eqAt ry fy rv fys u' (by simpa using hu'), ?_⟩
    · have e1 : its.toArray[j] = u := by simpa using hje
      rw [e1, eqU_of ru (flat_at fys hz)]
      exact hzj
    · intro m hm hmj
      have hml : m < its.length := by simpa using hm
      have hmy : m < ys.length := by omega
      have hy' : ys[m]? = some ys[m] := List.getElem?_eq_getElem hmy
      obtain ⟨u2, hu2, ru2⟩ := rv.get hy'
      obtain ⟨_, hme⟩ := List.getElem?_eq_some_iff.mp hu2
      have e1 : its.toArray[m] = u2 := by simpa using hme
      rw [e1, eqU_of ru2 (flat_at fys hy')]
      exact hno m _ hmj hy'
    · exact ⟨.int (j : Nat), H, I.tok _, ⟨_, rfl⟩, q⟩
end
section
variable {X : Cx}
end
theorem iter_any {prog : Program} {w : World} {A : Around} {E : Value → Shared → Prop} {s : Shared} {l : Addr} {items : Array Value} {Q : Value → Shared → Prop} (hl : s.heap.IsList l items)
    (h : ∀ s₂ : Shared, s₂ = { s with heap := s.heap.push { cls := .type "list_iterator", data := .fields #[.ref l, .int 0 0] } } →
      (s₂.heap.IsListIter s.heap.objs.size l 0 ∧ s₂.heap.IsList l items) → l ≠ s.heap.objs.size → Q (.ref s.heap.objs.size) s₂) : wpAny (model prog w) A (pyIter (.ref l)) Q E s := by
  have hlt : l < s.heap.objs.size := by obtain ⟨_, e, _⟩ := hl; exact Heap.lt_size e
  exact wpAny_pyIter_list hl (h _ rfl ⟨⟨_, Heap.get?_push_size _ rfl, rfl, rfl⟩, hl.push _⟩ (Nat.ne_of_lt hlt))
theorem truth_bools {prog : Program} {w : World} {A : Around} {bs : List Bool} {its : List Value} (e : its = bs.map Value.bool) :
    TruthOf prog w A (fun i v => its.toArray[i]? = some v) (fun i => bs.getD i false) := fun i v s Q E hv hq => by
  have hv' : its[i]? = some v := by simpa using hv
  rw [e, List.getElem?_map] at hv'
  obtain ⟨b, hb, rfl⟩ := Option.map_eq_some_iff.mp hv'
  have hg : bs.getD i false = b := by rw [List.getD_eq_getElem?_getD, hb] <;> rfl
  have hq' : Q (bs.getD i false) s := hq
  rw [hg] at hq'
  exact wpAny_truthy_bool hq'
theorem all_range : ∀ bs : List Bool, (List.range bs.length).all (fun i => bs.getD i false) = bs.all id
  | [] => rfl
  | b :: bs => by
    rw [List.length_cons, List.range_succ_eq_map, List.all_cons, List.all_map, List.all_cons, ← all_range bs]
    all_goals rfl
section
variable {X : Cx}
def rAll (K : PySem.W.Frag) : List V → Hp → VK → Prop := fun vs H Q => ∃ (a : Addr) (bs : List Bool), vs = [V.ref a] ∧ SqL K H a (bs.map V.bl) ∧ Q (.bl (bs.all id)) H
theorem cr_all (hc : X.calm = true) : CallR X (.builtin "all") (rAll X.K) := by
  intro pins s σ H vs us Q I r h
  obtain ⟨a, bs, rfl, hs, q⟩ := h
  obtain ⟨its, rv, hl, _⟩ := I.list hs
  rw [Vals.ref1 r]
  have hb := rv.bls
  refine call_all_walk (iter_any hl.isList fun s₂ e2 st hne => ?_)
  subst e2
  refine ⟨_, _, _, _, _, _, _, rfl, Walks.list (A := X.A.in1) (I.ok.hd hc) _ a hne its.toArray, st, truth_bools hb, fun h' tk hk => ?_⟩
  refine ⟨.bl _, H, I.kept fun b o eo => hk b o (fun hmem => ?_) (Heap.get?_push_of_some _ eo), ?_, q⟩
  · rcases List.mem_cons.mp hmem with e1 | hmem
    · exact absurd (e1 ▸ Heap.lt_size eo) (Nat.lt_irrefl _)
    · cases hmem
  · show Value.bool _ = Value.bool _
    rw [← all_range, hb, List.size_toArray, List.length_map]
end
section
variable {X : Cx} {pins : List (Addr × Obj)} {σ : St} {H : Hp} {s : Shared}
end
section
variable {X : Cx}
end
end L2
namespace L2
open PySem PySem.Spec PyProof.Rows
abbrev CellAt (h : Heap) (c : Addr) (v : Option Value) : Prop := h.IsCell c v
def relS (scope sc : Scope) : Scope :=
  { scope with names := scope.names.map fun (n, k) => if (k == .free && sc.kind == .function && sc.names.lookup n == some .cell) then (n, .cell) else (n, k) }
def cloFrom (cells : List (Str × Addr)) : List (Str × NameKind) → List (Str × Addr) → List (Str × Addr)
  | [], acc => acc
  | (n, k) :: r, acc => if k == .free then cloFrom cells r ((n, (cells.lookup n).getD 0) :: acc) else cloFrom cells r acc
theorem closure_loop (env : Env) (f : Str × NameKind → List (Str × Addr) → Sem (ForInStep (List (Str × Addr))))
    (hf : ∀ n k c, f (n, k) c = if k == .free then (do let a ← cellOf env n; pure (.yield ((n, a) :: c))) else pure (.yield c)) :
    ∀ (names : List (Str × NameKind)) (acc : List (Str × Addr)), (∀ y ∈ names, y.2 = .free → ∃ c, env.cells.lookup y.1 = some c) → forIn names acc f = pure (cloFrom env.cells names acc)
  | [], acc, _ => by rw [List.forIn_nil]; rfl
  | (n, k) :: r, acc, h => by
    rw [List.forIn_cons, hf]
    have ih := fun acc => closure_loop env f hf r acc fun y hy => h y (List.mem_cons_of_mem _ hy)
    unfold cloFrom
    by_cases hk : (k == NameKind.free) = true
    · rw [if_pos hk, if_pos hk]
      obtain ⟨c, hc⟩ := h (n, k) List.mem_cons_self (by simpa using hk)
      have e : cellOf env n = pure c := by unfold cellOf; rw [hc]
      rw [e]
      have e2 : (env.cells.lookup n).getD 0 = c := by rw [hc]; rfl
      rw [e2]
      exact ih _
    · rw [if_neg hk, if_neg hk]
      exact ih _
theorem closure_ok {scope : Scope} {env : Env} (h : ∀ y ∈ scope.names, y.2 = .free → ∃ c, env.cells.lookup y.1 = some c) : closureFor scope env = pure (cloFrom env.cells scope.names []) := by
  simp only [closureFor]
  rw [closure_loop env _ (fun n k c => rfl) scope.names [] h]
  rfl
theorem mem_lookup {α : Type} : ∀ {l : List (Str × α)} {n : Str} {c : α}, (n, c) ∈ l → ∃ c', l.lookup n = some c'
  | (k, v) :: r, n, c, h => by
    rw [List.lookup_cons]
    cases hb : n == k with
    | true => exact ⟨_, rfl⟩
    | false =>
      rcases List.mem_cons.mp h with e | h
      · cases e; simp at hb
      · exact mem_lookup h
theorem cloFrom_mem {cells : List (Str × Addr)} : ∀ {names : List (Str × NameKind)} {acc : List (Str × Addr)} {n : Str} {c : Addr}, (n, c) ∈ cloFrom cells names acc → (n, c) ∈ acc ∨ ((n, .free) ∈ names ∧ c = (cells.lookup n).getD 0)
  | [], _, _, _, h => .inl h
  | (m, k) :: r, acc, n, c, h => by
    unfold cloFrom at h
    split at h
    · rename_i hk
      have hk : k = .free := by simpa using hk
      rcases cloFrom_mem h with h | ⟨h1, h2⟩
      · rcases List.mem_cons.mp h with e | h
        · cases e; exact .inr ⟨hk ▸ List.mem_cons_self, rfl⟩
        · exact .inl h
      · exact .inr ⟨List.mem_cons_of_mem _ h1, h2⟩
    · rcases cloFrom_mem h with h | ⟨h1, h2⟩
      · exact .inl h
      · exact .inr ⟨List.mem_cons_of_mem _ h1, h2⟩
theorem cloFrom_acc {cells : List (Str × Addr)} : ∀ {names : List (Str × NameKind)} {acc : List (Str × Addr)} {p : Str × Addr}, p ∈ acc → p ∈ cloFrom cells names acc
  | [], _, _, h => h
  | (m, k) :: r, acc, p, h => by
    unfold cloFrom
    split
    · exact cloFrom_acc (List.mem_cons_of_mem _ h)
    · exact cloFrom_acc h
theorem cloFrom_has {cells : List (Str × Addr)} : ∀ {names : List (Str × NameKind)} {acc : List (Str × Addr)} {n : Str}, (n, .free) ∈ names → (n, (cells.lookup n).getD 0) ∈ cloFrom cells names acc
  | (m, k) :: r, acc, n, h => by
    unfold cloFrom
    rcases List.mem_cons.mp h with e | h
    · cases e
      exact cloFrom_acc List.mem_cons_self
    · split
      · exact cloFrom_has h
      · exact cloFrom_has h
theorem cells_mem : ∀ {names : List (Str × NameKind)} {h : Heap} {acc : List (Str × Addr)} {x : Str} {c : Addr}, (x, c) ∈ cellsFrom h.objs.size names acc →
    (x, c) ∈ acc ∨ ((x, .cell) ∈ names ∧ h.objs.size ≤ c ∧ CellAt (pushCells h names) c none)
  | [], _, _, _, _, h => .inl h
  | (n, k) :: r, h, acc, x, c, hm => by
    unfold cellsFrom at hm
    unfold pushCells
    split at hm
    · rename_i hk
      rw [if_pos hk]
      have hk : k = .cell := by simpa using hk
      rw [← Heap.size_push h { cls := .type "cell", data := .cell none }] at hm
      rcases cells_mem hm with hm | ⟨h1, h2, h3⟩
      · rcases List.mem_cons.mp hm with e | hm
        · cases e
          exact .inr ⟨hk ▸ List.mem_cons_self, Nat.le_refl _, _, pushCells_keeps r _ _ _ (Heap.get?_push_size _ rfl), rfl⟩
        · exact .inl hm
      · rw [Heap.size_push] at h2
        exact .inr ⟨List.mem_cons_of_mem _ h1, Nat.le_of_succ_le h2, h3⟩
    · rename_i hk
      rw [if_neg hk]
      rcases cells_mem hm with hm | ⟨h1, h2, h3⟩
      · exact .inl hm
      · exact .inr ⟨List.mem_cons_of_mem _ h1, h2, h3⟩
theorem cells_acc : ∀ {names : List (Str × NameKind)} {n : Nat} {acc : List (Str × Addr)} {p : Str × Addr}, p ∈ acc → p ∈ cellsFrom n names acc
  | [], _, _, _, h => h
  | (m, k) :: r, n, acc, p, h => by
    unfold cellsFrom
    split
    · exact cells_acc (List.mem_cons_of_mem _ h)
    · exact cells_acc h
theorem cells_has : ∀ {names : List (Str × NameKind)} {n : Nat} {acc : List (Str × Addr)} {x : Str}, (x, .cell) ∈ names → ∃ c, (x, c) ∈ cellsFrom n names acc
  | (m, k) :: r, n, acc, x, h => by
    unfold cellsFrom
    rcases List.mem_cons.mp h with e | h
    · cases e
      exact ⟨n, cells_acc List.mem_cons_self⟩
    · split
      · exact cells_has h
      · exact cells_has h
theorem cells_inj : ∀ {names : List (Str × NameKind)} {h : Heap} {acc : List (Str × Addr)} {x y : Str} {c : Addr}, (∀ p ∈ acc, p.2 < h.objs.size) → (∀ x y c, (x, c) ∈ acc → (y, c) ∈ acc → x = y) →
    (x, c) ∈ cellsFrom h.objs.size names acc → (y, c) ∈ cellsFrom h.objs.size names acc → x = y
  | [], _, _, _, _, _, _, hi, h1, h2 => hi _ _ _ h1 h2
  | (n, k) :: r, h, acc, x, y, c, hl, hi, h1, h2 => by
    unfold cellsFrom at h1 h2
    split at h1
    · rename_i hk
      rw [if_pos hk] at h2
      rw [← Heap.size_push h { cls := .type "cell", data := .cell none }] at h1 h2
      refine cells_inj (h := h.push _) (fun p hp => ?_) (fun x y c a b => ?_) h1 h2
      · rw [Heap.size_push]
        rcases List.mem_cons.mp hp with rfl | hp
        · exact Nat.lt_succ_self _
        · exact Nat.lt_succ_of_lt (hl p hp)
      · rcases List.mem_cons.mp a with e | a <;> rcases List.mem_cons.mp b with e' | b
        · cases e; cases e'; rfl
        · cases e; exact absurd (hl _ b) (Nat.lt_irrefl _)
        · cases e'; exact absurd (hl _ a) (Nat.lt_irrefl _)
        · exact hi _ _ _ a b
    · rename_i hk
      rw [if_neg hk] at h2
      exact cells_inj hl hi h1 h2
theorem newEnv_comp {M : Model} {A : Around} {E : Value → Shared → Prop} {s : Shared} {scope : Scope} {globals : Addr} {closure : List (Str × Addr)} {qual : Str} {func : Option Addr} {code : Value} {around : Env} {builtins : Addr} {Q : Env → Shared → Prop}
    (h : Q (newEnv scope s.heap.objs.size globals (cellsFrom (s.heap.objs.size + 1) scope.names closure) qual func code (some around) builtins)
      { s with heap := pushCells (s.heap.push { cls := .type "dict", data := .dict #[] }) scope.names }) :
    wpAny M A (newFunctionEnv scope globals closure [] qual func code (some around) builtins) Q E s := by
  simp only [newFunctionEnv, Option.isSome_some, if_true]
  refine wpAny_bind (wpAny_alloc ?_)
  refine wpAny_bind (wpAny_layCells _ (fun n k c => rfl) scope.names closure _ _ ?_)
  rw [show ({ s with heap := s.heap.push { cls := .type "dict", data := .dict #[] } } : Shared).heap.objs.size = s.heap.objs.size + 1 from Heap.size_push ..]
  rw [List.forIn_nil]
  exact wpAny_bind (wpAny_pure (wpAny_pure h))
theorem lookup_relS {sc : Scope} : ∀ {names : List (Str × NameKind)} {x : Str} {k : NameKind},
    (names.map fun (n, k) => if (k == NameKind.free && sc.kind == .function && sc.names.lookup n == some .cell) then (n, NameKind.cell) else (n, k)).lookup x = some k →
    ∃ k', names.lookup x = some k' ∧ (k = k' ∨ (k' = .free ∧ k = .cell))
  | [], _, _, h => by simp at h
  | (n, k₀) :: r, x, k, h => by
    have ih := @lookup_relS sc r x k
    have h' : List.lookup x ((if (k₀ == NameKind.free && sc.kind == .function && sc.names.lookup n == some .cell) = true then (n, NameKind.cell) else (n, k₀)) :: (r.map _)) = some k := h
    cases hx : x == n with
    | true =>
      simp only [List.lookup_cons, hx]
      by_cases hc : (k₀ == NameKind.free && sc.kind == .function && sc.names.lookup n == some .cell) = true
      · rw [if_pos hc] at h'
        simp only [List.lookup_cons, hx] at h'
        cases h'
        simp only [Bool.and_eq_true, beq_iff_eq] at hc
        exact ⟨k₀, rfl, .inr ⟨hc.1.1, rfl⟩⟩
      · rw [if_neg hc] at h'
        simp only [List.lookup_cons, hx] at h'
        cases h'
        exact ⟨_, rfl, .inl rfl⟩
    | false =>
      simp only [List.lookup_cons, hx]
      by_cases hc : (k₀ == NameKind.free && sc.kind == .function && sc.names.lookup n == some .cell) = true
      · rw [if_pos hc] at h'
        simp only [List.lookup_cons, hx] at h'
        exact ih h'
      · rw [if_neg hc] at h'
        simp only [List.lookup_cons, hx] at h'
        exact ih h'
structure BlkOk (N : List Str) (sc scope : Scope) (own : List (Str × Nat)) : Prop where
  kind : scope.kind = .function
  uniq : ∀ y ∈ scope.names, scope.names.lookup y.1 = some y.2
  ix : ∀ p ∈ own, N[p.2]? = some p.1
  free : ∀ y ∈ scope.names, y.2 = .free → sc.names.lookup y.1 = some .cell ∨ sc.names.lookup y.1 = some .free
  own : ∀ y ∈ scope.names, y.2 = .local ∨ y.2 = .cell → y.1 ∈ own.map (·.1) ∨ y.1 ∉ N
def wipe (σ : St) : List Nat → St
  | [] => σ
  | v :: vs => (wipe σ vs).set v none
theorem wipe_length (σ : St) : ∀ vs : List Nat, (wipe σ vs).length = σ.length
  | [] => rfl
  | v :: vs => by unfold wipe; rw [List.length_set, wipe_length σ vs]
theorem wipe_some {σ : St} {i : Nat} {x : V} : ∀ {vs : List Nat}, (wipe σ vs)[i]? = some (some x) → σ[i]? = some (some x) ∧ i ∉ vs
  | [], h => ⟨h, by simp⟩
  | v :: vs, h => by
    unfold wipe at h
    by_cases hi : v = i
    · subst hi
      by_cases hv : v < (wipe σ vs).length
      · rw [List.getElem?_set_self hv] at h; cases h
      · rw [List.getElem?_eq_none (by simpa using hv)] at h; cases h
    · rw [List.getElem?_set_ne hi] at h
      obtain ⟨h1, h2⟩ := wipe_some h
      exact ⟨h1, by simp only [List.mem_cons, not_or]; exact ⟨fun e => hi e.symm, h2⟩⟩
abbrev Cx.blk (X : Cx) (s : Shared) (H : Hp) (scope : Scope) (cenv : Env) (fp : List Addr) : Cx := { X with s_0 := s, H_0 := H, env := cenv, outer := X.stack, ex := fp, fn := fun x => scope.names.lookup x == some .cell, pn := [], xe := fun _ _ => False }
section
variable {X : Cx} {pins : List (Addr × Obj)} {σ : St} {H : Hp} {s : Shared}
theorem block_start {scope : Scope} {own : List (Str × Nat)} {fp : List Addr} (I : Inv X pins σ H s) (ok : BlkOk X.N X.env.scope scope own) (hN : X.N.Nodup) (hfp : ∀ b ∈ fp, FpOk X pins H b ∧ b < s.heap.objs.size) :
    Inv (X.blk s H scope (compEnvC scope (cellsFrom (s.heap.objs.size + 1) scope.names (cloFrom X.env.cells scope.names [])) s.heap.objs.size X.env) fp) [] (wipe σ (own.map (·.2))) H { s with heap := pushCells (s.heap.push { cls := .type "dict", data := .dict #[] }) scope.names } := by
  have hfree : ∀ y ∈ scope.names, y.2 = .free → ∃ c, X.env.cells.lookup y.1 = some c := fun y hy e => by
    rcases ok.free y hy e with k | k
    · exact I.ok.has _ (.inl k)
    · exact I.ok.has _ (.inr k)
  generalize hcenv : compEnvC scope (cellsFrom (s.heap.objs.size + 1) scope.names (cloFrom X.env.cells scope.names [])) s.heap.objs.size X.env = cenv
  have kp : ∀ b o, s.heap.get? b = some o → (pushCells (s.heap.push { cls := .type "dict", data := .dict #[] }) scope.names).get? b = some o := fun b o e => pushCells_keeps _ _ _ _ (Heap.get?_push_of_some _ e)
  have hL : cenv.locals = s.heap.objs.size := by rw [← hcenv]; rfl
  have hcl : cenv.cells = cellsFrom (s.heap.objs.size + 1) scope.names (cloFrom X.env.cells scope.names []) := by rw [← hcenv]; rfl
  have hsc : cenv.scope = relS scope X.env.scope := by rw [← hcenv]; rfl
  rw [← Heap.size_push s.heap { cls := .type "dict", data := .dict #[] }] at hcl
  have cm : ∀ {y c}, (y, c) ∈ cloFrom X.env.cells scope.names [] → X.env.cells.lookup y = some c ∧ c < s.heap.objs.size := fun {y c} hm => by
    rcases cloFrom_mem hm with hm | ⟨h1, rfl⟩
    · cases hm
    · obtain ⟨c, hc⟩ := hfree _ h1 rfl
      rw [hc]
      obtain ⟨w, z⟩ := I.cell _ _ hc
      exact ⟨rfl, z.lt⟩
  have mem : ∀ {y c}, cenv.cells.lookup y = some c → (X.env.cells.lookup y = some c ∧ c < s.heap.objs.size) ∨ (s.heap.objs.size + 1 ≤ c ∧ CellAt (pushCells (s.heap.push { cls := .type "dict", data := .dict #[] }) scope.names) c none) := fun {y c} e => by
    rw [hcl] at e
    rcases cells_mem (PySem.mem_of_lookup e) with hm | ⟨_, h2, h3⟩
    · exact .inl (cm hm)
    · rw [Heap.size_push] at h2; exact .inr ⟨h2, h3⟩
  have look : ∀ {y}, scope.names.lookup y = some .free → ∃ c, cenv.cells.lookup y = some c ∧ X.env.cells.lookup y = some c := fun {y} hl => by
    have hy : (y, NameKind.free) ∈ scope.names := PySem.mem_of_lookup hl
    obtain ⟨c', e'⟩ := mem_lookup (cells_acc (names := scope.names) (n := (s.heap.push { cls := .type "dict", data := .dict #[] }).objs.size) (cloFrom_has (cells := X.env.cells) (acc := []) hy))
    rw [← hcl] at e'
    refine ⟨c', e', ?_⟩
    rw [hcl] at e'
    rcases cells_mem (PySem.mem_of_lookup e') with hm | ⟨h1, _, _⟩
    · exact (cm hm).1
    · have := ok.uniq _ h1
      rw [hl] at this; cases this
  have okB : (X.blk s H scope cenv fp).Ok := by
    refine ⟨I.ok.mod, by show cenv.scope.kind = _; rw [hsc]; exact ok.kind, by show cenv.globals = _; rw [← hcenv]; exact I.ok.glob, by show cenv.builtins = _; rw [← hcenv]; exact I.ok.blt, by show s.heap.objs.size ≤ cenv.locals; rw [hL]; exact Nat.le_refl _,
      fun y z c e1 e2 => ?_, fun y hy => ?_, fun y c z e => ?_, I.ok.hd, I.ok.frames, .inl rfl, fun b hb => ⟨?_, fun y c e z => ?_⟩, I.bs, Nat.le_trans I.ok.bsz I.sz, fun b o e hb => ?_, fun b hb z => ?_, I.stack, I.stkFree⟩
    · have e1 : cenv.cells.lookup y = some c := e1
      have e2 : cenv.cells.lookup z = some c := e2
      rw [hcl] at e1 e2
      refine cells_inj (fun p hp => ?_) (fun y z c a b => I.ok.inj y z c (cm a).1 (cm b).1) (PySem.mem_of_lookup e1) (PySem.mem_of_lookup e2)
      rw [Heap.size_push]
      exact Nat.lt_succ_of_lt (cm (y := p.1) (c := p.2) hp).2
    · show ∃ c, cenv.cells.lookup y = some c
      have key : ∀ k, cenv.kindOf y = some k → (k = .cell ∨ k = .free) → ∃ c, cenv.cells.lookup y = some c := fun k hk hk' => by
        unfold Env.kindOf at hk
        rw [hsc] at hk
        obtain ⟨k', e, r⟩ := lookup_relS hk
        have : k' = .cell ∨ k' = .free := by
          rcases r with rfl | ⟨rfl, _⟩
          · exact hk'
          · exact .inr rfl
        rcases this with rfl | rfl
        · obtain ⟨c, hm⟩ := cells_has (n := (s.heap.push { cls := .type "dict", data := .dict #[] }).objs.size) (acc := cloFrom X.env.cells scope.names []) (PySem.mem_of_lookup e)
          obtain ⟨c', e'⟩ := mem_lookup hm
          exact ⟨c', by rw [hcl]; exact e'⟩
        · obtain ⟨c, h1, _⟩ := look e
          exact ⟨c, h1⟩
      rcases hy with hy | hy
      · exact key _ hy (.inl rfl)
      · exact key _ hy (.inr rfl)
    · have z : (scope.names.lookup y == some NameKind.cell) = true := z
      have z : scope.names.lookup y = some .cell := by simpa using z
      have e : cenv.cells.lookup y = some c := e
      rw [hcl] at e
      rcases cells_mem (PySem.mem_of_lookup e) with hm | ⟨_, h2, _⟩
      · rcases cloFrom_mem hm with hm | ⟨h1, _⟩
        · cases hm
        · have q := ok.uniq _ h1
          rw [z] at q; cases q
      · rw [Heap.size_push] at h2
        exact Nat.le_of_succ_le h2
    · show b ≠ cenv.locals
      rw [hL]; exact Nat.ne_of_lt (hfp b hb).2
    · have e : cenv.cells.lookup y = some c := e
      rcases mem e with ⟨h1, _⟩ | ⟨h1, _⟩
      · exact (hfp b hb).1.2.2.2.2.1 y c h1 z
      · have h2 : s.heap.objs.size + 1 ≤ b := by rw [← z]; exact h1
        exact absurd (Nat.lt_of_lt_of_le (hfp b hb).2 (Nat.le_of_succ_le h2)) (Nat.lt_irrefl _)
    · rcases (hfp b hb).1.2.2.2.1 with z | z
      · exact I.ok.noex b o e z
      · exact absurd (Nat.lt_of_lt_of_le (Heap.lt_size e) (Nat.le_trans I.ok.bsz z)) (Nat.lt_irrefl _)
    · rcases List.mem_cons.mp (I.stkSub b z) with z | z
      · exact (hfp b hb).1.2.1 z
      · exact (hfp b hb).1.2.2.1 z
  refine ⟨okB, rfl, I.bare, Un.kept kp, ⟨fun _ => none, ?_, fun i y av e1 e2 e3 => ?_⟩, fun y c e => ?_, ?_, fun y c e => ?_, fun p hp => ?_, I.hok.kept kp, by rw [wipe_length]; exact I.len⟩
  · show Heap.Ns _ cenv.locals _
    rw [hL]
    exact Heap.Ns.keeps (Heap.Ns.new ..) fun b o e => pushCells_keeps _ _ _ _ e
  · obtain ⟨e2, hne⟩ := wipe_some e2
    have hfr : scope.names.lookup y = some .free ∧ (cenv.kindOf y = some .cell ∨ cenv.kindOf y = some .free) := by
      have key : ∀ k, cenv.scope.names.lookup y = some k → k = .local ∨ k = .cell ∨ k = .free → scope.names.lookup y = some .free ∧ (cenv.kindOf y = some .cell ∨ cenv.kindOf y = some .free) := fun k hk hk' => by
        have hk0 := hk
        rw [hsc] at hk
        obtain ⟨k', e, r⟩ := lookup_relS hk
        have no : ¬ (k' = .local ∨ k' = .cell) := fun hh => by
          rcases ok.own _ (PySem.mem_of_lookup e) hh with e' | e'
          · obtain ⟨p, hp, hpy⟩ := List.mem_map.mp e'
            have e3 := ok.ix p hp
            have : p.1 = y := hpy
            rw [this] at e3
            exact hne (List.mem_map.mpr ⟨p, hp, nodup_ix hN e3 e1⟩)
          · exact e' (List.mem_of_getElem? e1)
        rcases r with rfl | ⟨rfl, rfl⟩
        · rcases hk' with rfl | rfl | rfl
          · exact absurd (.inl rfl) no
          · exact absurd (.inr rfl) no
          · exact ⟨e, .inr hk0⟩
        · exact ⟨e, .inl hk0⟩
      have e3 : Vis cenv.scope y := e3
      rcases e3 with e3 | e3 | e3
      · exact key _ e3 (.inl rfl)
      · exact key _ e3 (.inr (.inl rfl))
      · exact key _ e3 (.inr (.inr rfl))
    obtain ⟨m, hn, hl⟩ := I.loc
    have hvis : Vis X.env.scope y := (ok.free _ (PySem.mem_of_lookup hfr.1) rfl).elim (fun k => .inr (.inl k)) (fun k => .inr (.inr k))
    obtain ⟨w, r, q⟩ := hl i y av e1 e2 hvis
    refine ⟨w, r, .inr ⟨hfr.2, ?_⟩⟩
    obtain ⟨c, h1, h2⟩ := look hfr.1
    rcases q with ⟨k, _⟩ | ⟨_, c', e', z⟩
    · have k : X.env.scope.names.lookup y = some .local := k
      rcases ok.free _ (PySem.mem_of_lookup hfr.1) rfl with k' | k' <;> rw [show X.env.scope.names.lookup y = _ from k'] at k <;> cases k
    · rw [h2] at e'; cases e'
      exact ⟨c, h1, z.keeps kp⟩
  · have e : cenv.cells.lookup y = some c := e
    rcases mem e with ⟨h1, _⟩ | ⟨_, z⟩
    · obtain ⟨w, z⟩ := I.cell y c h1
      exact ⟨w, z.keeps kp⟩
    · exact ⟨_, z⟩
  · show H cenv.locals = none
    rw [hL]; exact I.hok.fresh (Nat.le_refl _)
  · have e : cenv.cells.lookup y = some c := e
    rcases mem e with ⟨h1, _⟩ | ⟨h1, _⟩
    · exact I.freeC y c h1
    · exact I.hok.fresh (Nat.le_of_succ_le h1)
  · exact absurd (show p ∈ ([] : List (Addr × Obj)) ++ [] from hp) (by simp)
theorem app_ok {E : Value → Shared → Prop} {D : Addr} {xs : List V} {y : V} {v : Value} {Q : Value → Shared → Prop} (I : Inv X pins σ H s) (hD : H D = some (.lst xs)) (hz : xs.length < sizeLine) (r : RelV y v)
    (h : ∀ s', Inv X pins σ (upd H D (.lst (xs ++ [y]))) s' → Q .none s') : wpAny (model X.prog X.w) X.A (call (.builtin "list.append") [.ref D, v]) Q E s := by
  obtain ⟨hz', its, n, ri, e⟩ := I.hok D _ hD
  have hl := ri.length
  refine append_at (hsz := by rw [List.size_toArray]; omega) e fun h' sb ho' => ?_
  refine h { s with heap := h' } (I.write (t' := s.toks) (by rw [hD]; trivial) (.inl rfl) (fun b u hb q => (sb.2 b hb).trans q) ⟨_, ho'⟩ ⟨by rw [List.length_append]; exact hz, its ++ [v], n + 1, ri.append (.cons r .nil), ?_⟩)
  rw [ho']
  simp
def PTs (X : Cx) (ifs : List Expr) (t : TT) : Prop :=
  ∀ (pins : List (Addr × Obj)) (s : Shared) (σ : St) (H : Hp) (Q : Bool → Hp → Prop), Inv X pins σ H s → t σ H Q →
    wpAny (model X.prog X.w) X.A (forIn ifs true fun c r => if r = true then do let ok ← isTrue c X.env (eval c X.env); pure (ForInStep.yield ok) else pure (ForInStep.yield r)) (TP X pins σ Q) X.xe s
def tYes : TT := fun _ H Q => Q true H
theorem pts_nil : PTs X [] tYes := fun _ _ _ H _ I h => wpAny_tests_nil ⟨H, I, h⟩
theorem pts_one {c : Expr} {t : TT} (h : PT X c t) : PTs X [c] t := fun pins s σ H Q I hw => wpAny_tests_one (h pins s σ H Q I hw)
end
theorem thnF {α : Type} {t : Sem α} {Q Q' : α → Shared → Prop} {M : Model} {A : Around} {E : Value → Shared → Prop} {s : Shared} (h : wpAny M A t Q (fun _ _ => False) s) (hQ : ∀ a s, Q a s → Q' a s) : wpAny M A t Q' E s := wpAny_mono h hQ fun _ _ z => False.elim z
theorem compLoop_any {prog : Program} {w : World} {A : Around} {R : Result → Shared → Prop} {s : Shared} {elt target iter : Expr} {ifs : List Expr} {scope : Scope} {pos : Pos} {it acc : Value} {env : Env} (I : Nat → Shared → Prop)
    (turn : ∀ n s, I n s → wpAny (model prog w) A (pyNext it) (fun r s₁ => match r with
      | none => R (.ok .next) s₁
      | some v => wpAny (model prog w) A (letOwnedTupleGo target it v) (fun _ s₁' => wpAny (model prog w) A (assign target env v) (fun _ s₂ =>
          wpAny (model prog w) A (forIn ifs true fun c r => if r = true then do let ok ← isTrue c env (eval c env); pure (ForInStep.yield ok) else pure (ForInStep.yield r)) (fun ok s₃ =>
            if ok = true then wpAny (model prog w) A (eval elt env) (fun x s₄ =>
              wpAny (model prog w) A (call (.builtin "list.append") [acc, x]) (fun _ s₅ => ∃ m, m < n ∧ I m s₅) (notedBy (model prog w) A env fun e s' => R (.error e) s') s₄) (notedBy (model prog w) A env fun e s' => R (.error e) s') s₃
            else ∃ m, m < n ∧ I m s₃) (notedBy (model prog w) A env fun e s' => R (.error e) s') s₂) (notedBy (model prog w) A env fun e s' => R (.error e) s') s₁') (notedBy (model prog w) A env fun e s' => R (.error e) s') s₁) (notedBy (model prog w) A env fun e s' => R (.error e) s') s)
    (n : Nat) (h : I n s) :
    codeAny (model prog w) A (.compLoop (.ListComp elt [⟨target, iter, ifs, 0⟩] scope pos) 0 it acc env) R s := by
  refine codeAny_loop rfl I (fun n s hI => ?_) n h
  show wpAny _ A ((compTurn (.ListComp elt [⟨target, iter, ifs, 0⟩] scope pos) 0 it acc env).onRaise (fun x => do noteFrame x env; theTreesLotGoes x)) _ _ s
  refine wpAny_noted ?_
  rw [compTurn_list]
  refine wpAny_bind (wpAny_standAt (wpAny_bind (wpAny_mono (turn n s hI) (fun r s₁ h₁ => ?_) fun _ _ h' => h')))
  cases r with
  | none => exact wpAny_pure h₁
  | some v =>
    refine wpAny_bind (wpAny_mono h₁ (fun _ s₁' h₁' => ?_) fun _ _ h' => h')
    refine wpAny_bind (wpAny_mono h₁' (fun _ s₂ h₂ => wpAny_bind (wpAny_mono h₂ (fun ok s₃ h₃ => ?_) fun _ _ h' => h')) fun _ _ h' => h')
    cases ok with
    | false => exact wpAny_pure ⟨rfl, h₃⟩
    | true =>
      exact wpAny_bind (wpAny_bind (wpAny_mono h₃ (fun x s₄ h₄ => wpAny_bind (wpAny_mono h₄ (fun _ s₅ h₅ => wpAny_pure (wpAny_pure ⟨rfl, h₅⟩)) fun _ _ h' => h')) fun _ _ h' => h'))
section
variable {X : Cx}
def tLc (wi : TI) (g : TG) (tt : TT) (te : TE) (vs : List Nat) : TE := fun σ H Q => wi σ H fun J H1 => ∀ D, H1 D = none → ∃ W : Nat → Nat → Hp → Prop, (∃ m, W 0 m (upd H1 D (.lst []))) ∧ ∀ i m H, W i m H →
  (J.stop i H ∧ Q (.ref D) H) ∨ (J.go i H ∧ ∃ Nx : Hp → Prop, (∀ H', Nx H' → ∃ m', m' < m ∧ W (i + 1) m' H') ∧ ∀ x H', J.yld i H x H' → g x (wipe σ vs) H' fun σ2 H2 => wipe σ2 vs = wipe σ vs ∧ tt σ2 H2 fun b H3 =>
    if b = true then te σ2 H3 fun y H4 => ∃ acc, H4 D = some (.lst acc) ∧ acc.length < sizeLine ∧ Nx (upd H4 D (.lst (acc ++ [y]))) else Nx H3)
theorem lc_core {pins : List (Addr × Obj)} {s : Shared} {σ : St} {H : Hp} {Q : VK} {elt tg iter : Expr} {ifs : List Expr} {scope : Scope} {own : List (Str × Nat)} {pos pos' : Pos} {wi : TI} {g : TG} {tt : TT} {te : TE} {use : Option (Value → Sem Unit)} {Qf : Value → Shared → Prop}
    (hc : X.calm = true) (hN : X.N.Nodup) (I : Inv X pins σ H s) (hi : PI X tg iter wi) (ok : BlkOk X.N X.env.scope scope own)
    (hg : ∀ (s : Shared) (H : Hp) (C : Addr) (cl : List (Str × Addr)) (fp : List Addr), PG (X.blk s H scope (compEnvC scope cl C X.env) fp) tg g) (ht : ∀ (s : Shared) (H : Hp) (C : Addr) (cl : List (Str × Addr)) (fp : List Addr), PTs (X.blk s H scope (compEnvC scope cl C X.env) fp) ifs tt)
    (he : ∀ (s : Shared) (H : Hp) (C : Addr) (cl : List (Str × Addr)) (fp : List Addr), PE (X.blk s H scope (compEnvC scope cl C X.env) fp) elt te) (hs : ∀ x, foldedSetIterable iter X.env x = pure x)
    (h : tLc wi g tt te (own.map (·.2)) σ H Q)
    (hRR : ∀ D C s' m H', Inv X pins σ H' s' → Q (.ref D) H' → s'.heap.Ns C m → FpOk X pins H' C → compPost (model X.prog X.w) X.A X.xe use Qf (.ref D) C (.ok .next) s') :
    wpAny (model X.prog X.w) X.A (comprehension (.ListComp elt [⟨tg, iter, ifs, 0⟩] scope pos) scope X.env pos' (newList []) false (eval iter X.env) use) Qf X.xe s := by
  have hfree : ∀ y ∈ scope.names, y.2 = .free → ∃ c, X.env.cells.lookup y.1 = some c := fun y hy e => by
    rcases ok.free y hy e with k | k
    · exact I.ok.has _ (.inl k)
    · exact I.ok.has _ (.inr k)
  refine wpAny_comprehension_free (use := use) rfl hs (closure_ok hfree) ok.kind (fun y hy e => by rw [ok.uniq y hy, e])
    (thn (hi pins s σ H _ I h) fun xv s1 hx => thn hx fun itv s2 h2 => ?_)
  obtain ⟨it, fp, tn, J, H2, e, I2, T, st2, f2, q⟩ := h2
  subst e
  refine wpAny_newObj_type (newEnv_comp ?_) (by show 0 ≤ sizeLine; decide)
  generalize hD : s2.heap.objs.size = D
  have hDn : H2 D = none := I2.hok.fresh (Nat.le_of_eq hD)
  obtain ⟨W, ⟨m0, w0⟩, turn⟩ := q D hDn
  -- the new list
  generalize hs3 : ({ s2 with heap := s2.heap.push { cls := .type "list", data := .seq ([] : List Value).toArray } } : Shared) = s3
  have I3 : Inv X pins σ (upd H2 D (.lst [])) s3 := by
    rw [← hs3]
    refine I2.laid (t' := s2.toks) (fun b o e => Heap.get?_push_of_some _ e) (Nat.le_of_eq hD) ⟨Nat.zero_le _, [], 0, .nil, ?_⟩
    rw [← hD]
    exact Heap.get?_push_size _ rfl
  have h3 : s3.heap = s2.heap.push { cls := .type "list", data := .seq ([] : List Value).toArray } := by rw [← hs3]
  have sz : ∀ b ∈ fp, b < s2.heap.objs.size := fun b hb => by
    obtain ⟨o, e, _⟩ := T.obj _ _ st2 b hb
    exact Heap.lt_size e
  have f3 : ∀ b ∈ fp, FpOk X pins (upd H2 D (.lst [])) b ∧ b < s3.heap.objs.size := fun b hb => by
    have hlt := sz b hb
    refine ⟨⟨?_, (f2 b hb).2⟩, by rw [h3, Heap.size_push]; exact Nat.lt_succ_of_lt hlt⟩
    rw [upd_ne (by rw [← hD]; exact Nat.ne_of_lt hlt)]
    exact (f2 b hb).1
  have st3 : tn 0 s3.heap := T.keep _ _ _ st2 fun b _ o e => by rw [h3]; exact Heap.get?_push_of_some _ e
  have I4 := block_start I3 ok hN f3
  have pg := hg s3 (upd H2 D (.lst [])) s3.heap.objs.size (cellsFrom (s3.heap.objs.size + 1) scope.names (cloFrom X.env.cells scope.names [])) fp
  have pt := ht s3 (upd H2 D (.lst [])) s3.heap.objs.size (cellsFrom (s3.heap.objs.size + 1) scope.names (cloFrom X.env.cells scope.names [])) fp
  have pe := he s3 (upd H2 D (.lst [])) s3.heap.objs.size (cellsFrom (s3.heap.objs.size + 1) scope.names (cloFrom X.env.cells scope.names [])) fp
  show codeAny _ _ (.compStart (.ListComp elt [⟨tg, iter, ifs, 0⟩] scope pos) 0 (.ref it) (.ref D) (compEnvC scope (cellsFrom (s3.heap.objs.size + 1) scope.names (cloFrom X.env.cells scope.names [])) s3.heap.objs.size X.env)) (compPost (model X.prog X.w) X.A X.xe use Qf (.ref D) s3.heap.objs.size) { s3 with heap := pushCells (s3.heap.push { cls := .type "dict", data := .dict #[] }) scope.names }
  have nfp : ∀ b ∈ fp, (upd H2 D (.lst [])) b = none := fun b hb => (f3 b hb).1.1
  generalize hce : compEnvC scope (cellsFrom (s3.heap.objs.size + 1) scope.names (cloFrom X.env.cells scope.names [])) s3.heap.objs.size X.env = ce at I4 pg pt pe ⊢
  have cL : ce.locals = s3.heap.objs.size := by subst hce; rfl
  generalize hH3 : upd H2 D (.lst []) = H3 at I3 I4 pg pt pe w0 nfp f3
  generalize hs4 : ({ s3 with heap := pushCells (s3.heap.push { cls := .type "dict", data := .dict #[] }) scope.names } : Shared) = s4 at I4 ⊢
  have st4 : tn 0 s4.heap := T.keep _ _ _ st3 fun b _ o e => by rw [← hs4]; exact pushCells_keeps _ _ _ _ (Heap.get?_push_of_some _ e)
  have stat : ∀ {σ' : St} {H' : Hp} {s' : Shared}, Inv (X.blk s3 H3 scope ce fp) [] σ' H' s' → (∀ b ∈ fp, H' b = none) → ∀ b ∈ fp, FpOk (X.blk s3 H3 scope ce fp) [] H' b := fun {σ' H' s'} I' hn b hb =>
    ⟨hn b hb, (I'.ok.exf b hb).1, I'.ok.exfs b hb, .inl hb, fun x c e => (I'.ok.exf b hb).2 x c e, fun p hp => absurd (show p ∈ ([] : List (Addr × Obj)) ++ [] from hp) (by simp)⟩
  have loop : codeAny (model X.prog X.w) X.A (.compLoop (.ListComp elt [⟨tg, iter, ifs, 0⟩] scope pos) 0 (.ref it) (.ref D) ce) (compPost (model X.prog X.w) X.A X.xe use Qf (.ref D) s3.heap.objs.size) s4 := by
    refine compLoop_any (fun n s' => ∃ i H', Inv (X.blk s3 H3 scope ce fp) [] (wipe σ (own.map (·.2))) H' s' ∧ tn i s'.heap ∧ (∀ b ∈ fp, H' b = none) ∧ W i n H') ?_ m0 ⟨0, H3, I4, st4, nfp, w0⟩
    rintro n s5 ⟨i, H5, I5, st5, n5, w5⟩
    rcases turn i n H5 w5 with ⟨stop, qq⟩ | ⟨go, Nx, hNx, step⟩
    · have td := T.done (X.blk s3 H3 scope ce fp) rfl rfl rfl hc i [] s5 _ H5 (fun _ _ => False) I5 (stat I5 n5) st5 stop
      refine thnF td fun r s6 ⟨hr, I6⟩ => ?_
      subst hr
      -- back in the def's context
      have I7 : Inv X pins σ H5 s6 := I3.call' (ch := fp) I6.os I6.base I6.hok I6.bare fun b hb => ⟨(f3 b hb).1.2.2.2.1, (f3 b hb).1.2.1, (f3 b hb).1.2.2.2.2.1, (f3 b hb).1.2.2.2.2.2⟩
      have nC : H5 s3.heap.objs.size = none := by
        have z : H5 ce.locals = none := I6.free
        rw [cL] at z
        exact z
      obtain ⟨m, hn, _⟩ := I6.loc
      have hn : s6.heap.Ns ce.locals m := hn
      rw [cL] at hn
      exact hRR D s3.heap.objs.size s6 m H5 I7 qq hn (I3.fpOk (Nat.le_refl _) nC)
    · have ti := T.item (X.blk s3 H3 scope ce fp) rfl rfl rfl hc i [] s5 _ H5 (fun _ _ => False) I5 (stat I5 n5) st5 go
      refine thnF ti fun r s6 ⟨u, hr, h6⟩ => ?_
      subst hr
      refine thnF h6 fun _ s7 ⟨x, H7, I7, r7, y7, st7, n7⟩ => ?_
      have I7' := I7.pinned (stat I7 n7) (T.obj _ _ st7)
      refine thnF (pg _ s7 _ H7 x u _ I7' r7 (step x H7 y7)) fun _ s8 ⟨σ8, H8, I8, hw8, q8⟩ => ?_
      refine thnF (pt _ s8 σ8 H8 _ I8 q8) fun b s9 ⟨H9, I9, q9⟩ => ?_
      -- the turn's end
      have fin : ∀ {s' : Shared} {H' : Hp}, Inv (X.blk s3 H3 scope ce fp) ([] ++ pinsAt fp s7.heap) σ8 H' s' → Nx H' → ∃ m, m < n ∧ ∃ i H', Inv (X.blk s3 H3 scope ce fp) [] (wipe σ (own.map (·.2))) H' s' ∧ tn i s'.heap ∧ (∀ b ∈ fp, H' b = none) ∧ W i m H' := fun {s' H'} I' nx => by
        obtain ⟨m', hm, w'⟩ := hNx H' nx
        have pin' : ∀ b ∈ fp, ∀ o, s7.heap.get? b = some o → s'.heap.get? b = some o ∧ H' b = none := fun b hb o e =>
          let z := I'.pin (b, o) (List.mem_append_right _ (List.mem_append_right _ (mem_pinsAt hb e)))
          ⟨z.1, z.2.1⟩
        have hl : (wipe σ (own.map (·.2))).length = σ8.length := by rw [← hw8, wipe_length]
        refine ⟨m', hm, i + 1, H', (I'.unpinned (pins := [])).weak hl (fun j v e => ?_), T.keep _ _ _ st7 fun b hb o e => (pin' b hb o e).1, fun b hb => ?_, w'⟩
        · rw [← hw8] at e
          exact (wipe_some e).1
        · obtain ⟨o, e, _⟩ := T.obj _ _ st7 b hb
          exact (pin' b hb o e).2
      cases b with
      | false =>
        simp only [Bool.false_eq_true, if_false] at q9 ⊢
        exact fin I9 q9
      | true =>
        simp only [if_true] at q9 ⊢
        refine thnF (pe _ s9 σ8 H9 _ I9 q9) fun z s10 ⟨yv, H10, I10, r10, acc, hD10, hz10, nx⟩ => ?_
        exact app_ok (X := X.blk s3 H3 scope ce fp) I10 hD10 hz10 r10 fun s11 I11 => fin I11 nx
  exact codeAny_compStart_list loop (T.self X.A 0 _ _ _ st4 loop)
theorem pe_lc {elt tg iter : Expr} {ifs : List Expr} {scope : Scope} {own : List (Str × Nat)} {pos : Pos} {wi : TI} {g : TG} {tt : TT} {te : TE} (hc : X.calm = true) (hN : X.N.Nodup) (hi : PI X tg iter wi) (ok : BlkOk X.N X.env.scope scope own)
    (hg : ∀ (s : Shared) (H : Hp) (C : Addr) (cl : List (Str × Addr)) (fp : List Addr), PG (X.blk s H scope (compEnvC scope cl C X.env) fp) tg g) (ht : ∀ (s : Shared) (H : Hp) (C : Addr) (cl : List (Str × Addr)) (fp : List Addr), PTs (X.blk s H scope (compEnvC scope cl C X.env) fp) ifs tt)
    (he : ∀ (s : Shared) (H : Hp) (C : Addr) (cl : List (Str × Addr)) (fp : List Addr), PE (X.blk s H scope (compEnvC scope cl C X.env) fp) elt te) (hs : ∀ x, foldedSetIterable iter X.env x = pure x := by intro _; rfl) :
    PE X (.ListComp elt [⟨tg, iter, ifs, 0⟩] scope pos) (tLc wi g tt te (own.map (·.2))) := by
  intro pins s σ H Q I h
  rw [eval_ListComp]
  refine lc_core hc hN I hi ok hg ht he hs h fun D C s' m H' I' q hn f => ⟨m, hn, fun h'' sb => ?_⟩
  obtain ⟨f0, f1, f2, f3, f4, f5⟩ := f
  exact ⟨.ref D, H', I'.turned (t' := s'.toks) (fun b o hb e => (sb.2 b hb).trans e) f0 f1 f3 f4 f5, rfl, q⟩
theorem ps_setLc {i : Nat} {y : Str} {py : Pos} {elt tg iter : Expr} {ifs : List Expr} {scope : Scope} {own : List (Str × Nat)} {pos spos : Pos} {wi : TI} {g : TG} {tt : TT} {te : TE} (hc : X.calm = true) (hN : X.N.Nodup) (hy : X.N[i]? = some y) (hyl : X.env.scope.names.lookup y = some .local)
    (hsw : swapsWith (.ListComp elt [⟨tg, iter, ifs, 0⟩] scope pos) (some (.Name y py)) spos.line X.env = pure true) (hi : PI X tg iter wi) (ok : BlkOk X.N X.env.scope scope own)
    (hg : ∀ (s : Shared) (H : Hp) (C : Addr) (cl : List (Str × Addr)) (fp : List Addr), PG (X.blk s H scope (compEnvC scope cl C X.env) fp) tg g) (ht : ∀ (s : Shared) (H : Hp) (C : Addr) (cl : List (Str × Addr)) (fp : List Addr), PTs (X.blk s H scope (compEnvC scope cl C X.env) fp) ifs tt)
    (he : ∀ (s : Shared) (H : Hp) (C : Addr) (cl : List (Str × Addr)) (fp : List Addr), PE (X.blk s H scope (compEnvC scope cl C X.env) fp) elt te) (hs : ∀ x, foldedSetIterable iter X.env x = pure x := by intro _; rfl) :
    PS X (.Assign [.Name y py] (.ListComp elt [⟨tg, iter, ifs, 0⟩] scope pos) spos) (tAsg (tLc wi g tt te (own.map (·.2))) (gName i)) := by
  intro pins s σ H D I h
  rw [exec_Assign_Name_used _ _ _ _ hsw]
  refine wpAny_bind (wpAny_standAt (wpAny_bind ?_))
  show wpAny _ X.A (do let _ ← comprehension (.ListComp elt [⟨tg, iter, ifs, 0⟩] scope pos) scope X.env (firstIterPos [⟨tg, iter, ifs, 0⟩] pos) (newList []) false (eval iter X.env) (some (assign (.Name y py) X.env))) _ _ s
  have h : tLc wi g tt te (own.map (·.2)) σ H (fun x H1 => gName i x σ H1 D.nx) := h
  refine wpAny_bind (thn (lc_core (Qf := fun _ s' => SP X pins D .next s') hc hN I hi ok hg ht he hs h fun L C s' m H' I' q hn f => ?_) fun _ s' hq => wpAny_pure (wpAny_pure hq))
  show wpAny _ _ (assign (.Name y py) X.env (.ref L)) _ _ _
  refine wpAny_assign_Name (store_ok2 (v := V.ref L) I' hN hy (.inl hyl) rfl (fun s2 I2 ⟨a, sb, ha⟩ => ?_) (.inr hyl))
  obtain ⟨f0, f1, f2, f3, f4, f5⟩ := f
  have haC : C ≠ a := by
    rcases ha with z | z
    · rw [z]; exact f1
    · exact fun e => f4 y a z e.symm
  refine ⟨m, hn.sameBut sb haC, fun h3 sb3 => ?_⟩
  exact ⟨_, H', I2.turned (t' := s2.toks) (fun b o hb e => (sb3.2 b hb).trans e) f0 f1 f3 f4 f5, q⟩
theorem sw_true {elt : Expr} {gs : List Comprehension} {scope : Scope} {pos py : Pos} {y : Str} {l : Nat} {env : Env} (hk : env.scope.kind = .function) (hy : env.scope.names.lookup y = some .local) (hl : (py.line == pos.line) = true)
    (ha : (scope.names.any fun (n, k) => n == y && (k == .local || k == .cell)) = false) : swapsWith (.ListComp elt gs scope pos) (some (.Name y py)) l env = pure true := by
  have ky : env.kindOf y = some .local := hy
  have hb : env.blockKind = .function := by unfold Env.blockKind; rw [hk]; rfl
  unfold swapsWith
  simp only [hb, ky, ha, Expr.pos, hl]
  rfl
end
theorem lc_range {lo : Int} {n : Nat} {g : TG} {tt : TT} {te : TE} {vs : List Nat} {σ : St} {H1 : Hp} {D : Addr} {Qd : Hp → Prop} (Pv : Nat → Hp → Prop) (h0 : Pv 0 (upd H1 D (.lst [])))
    (hs : ∀ i H, i < n → Pv i H → g (.int (lo + i)) (wipe σ vs) H fun σ2 H2 => wipe σ2 vs = wipe σ vs ∧ tt σ2 H2 fun b H3 =>
      if b = true then te σ2 H3 fun y H4 => ∃ acc, H4 D = some (.lst acc) ∧ acc.length < sizeLine ∧ Pv (i + 1) (upd H4 D (.lst (acc ++ [y]))) else Pv (i + 1) H3) (hd : ∀ H, Pv n H → Qd H) :
    ∃ W : Nat → Nat → Hp → Prop, (∃ m, W 0 m (upd H1 D (.lst []))) ∧ ∀ i m H, W i m H →
      ((Itr lo n).stop i H ∧ Qd H) ∨ ((Itr lo n).go i H ∧ ∃ Nx : Hp → Prop, (∀ H', Nx H' → ∃ m', m' < m ∧ W (i + 1) m' H') ∧ ∀ x H', (Itr lo n).yld i H x H' → g x (wipe σ vs) H' fun σ2 H2 => wipe σ2 vs = wipe σ vs ∧ tt σ2 H2 fun b H3 =>
        if b = true then te σ2 H3 fun y H4 => ∃ acc, H4 D = some (.lst acc) ∧ acc.length < sizeLine ∧ Nx (upd H4 D (.lst (acc ++ [y]))) else Nx H3) := by
  refine ⟨fun i m H => m = n - i ∧ i ≤ n ∧ Pv i H, ⟨n, by simp, Nat.zero_le _, h0⟩, ?_⟩
  rintro i m H ⟨rfl, hi, p⟩
  by_cases hlt : i < n
  · refine .inr ⟨hlt, Pv (i + 1), fun H' p' => ⟨n - (i + 1), by omega, rfl, hlt, p'⟩, fun x H' y => ?_⟩
    obtain ⟨e, y⟩ := y
    subst e y
    exact hs i _ hlt p
  · have e : i = n := by omega
    subst e
    exact .inl ⟨Nat.le_refl _, hd H p⟩
theorem lc_list {K : PySem.W.Frag} {a : Addr} {xs : List V} {g : TG} {tt : TT} {te : TE} {vs : List Nat} {σ : St} {H1 : Hp} {D : Addr} {Qd : Hp → Prop} (Pv : Nat → Hp → Prop) (h0 : Pv 0 (upd H1 D (.lst []))) (hl : ∀ i H, i ≤ xs.length → Pv i H → SqL K H a xs)
    (hs : ∀ i x H, xs[i]? = some x → Pv i H → g x (wipe σ vs) H fun σ2 H2 => wipe σ2 vs = wipe σ vs ∧ tt σ2 H2 fun b H3 =>
      if b = true then te σ2 H3 fun y H4 => ∃ acc, H4 D = some (.lst acc) ∧ acc.length < sizeLine ∧ Pv (i + 1) (upd H4 D (.lst (acc ++ [y]))) else Pv (i + 1) H3) (hd : ∀ H, Pv xs.length H → Qd H) :
    ∃ W : Nat → Nat → Hp → Prop, (∃ m, W 0 m (upd H1 D (.lst []))) ∧ ∀ i m H, W i m H →
      ((Itl K a).stop i H ∧ Qd H) ∨ ((Itl K a).go i H ∧ ∃ Nx : Hp → Prop, (∀ H', Nx H' → ∃ m', m' < m ∧ W (i + 1) m' H') ∧ ∀ x H', (Itl K a).yld i H x H' → g x (wipe σ vs) H' fun σ2 H2 => wipe σ2 vs = wipe σ vs ∧ tt σ2 H2 fun b H3 =>
        if b = true then te σ2 H3 fun y H4 => ∃ acc, H4 D = some (.lst acc) ∧ acc.length < sizeLine ∧ Nx (upd H4 D (.lst (acc ++ [y]))) else Nx H3) := by
  refine ⟨fun i m H => m = xs.length - i ∧ i ≤ xs.length ∧ Pv i H, ⟨xs.length, by simp, Nat.zero_le _, h0⟩, ?_⟩
  rintro i m H ⟨rfl, hi, p⟩
  have q := hl i H hi p
  by_cases hlt : i < xs.length
  · refine .inr ⟨⟨xs, xs[i], q, by simp [hlt]⟩, Pv (i + 1), fun H' p' => ⟨xs.length - (i + 1), by omega, rfl, hlt, p'⟩, fun x H' y => ?_⟩
    obtain ⟨e, y⟩ := y
    subst e
    exact hs i x _ (y xs q) p
  · have e : i = xs.length := by omega
    subst e
    exact .inl ⟨⟨xs, q, Nat.le_refl _⟩, hd H p⟩
def blkC (N : List Str) (sc scope : Scope) (own : List (Str × Nat)) : Bool :=
  (match scope.kind with | .function => true | _ => false) && (scope.names.all fun y => decide (scope.names.lookup y.1 = some y.2)) && (own.all fun p => decide (N[p.2]? = some p.1)) &&
    (scope.names.all fun y => match y.2 with
      | .free => (match sc.names.lookup y.1 with | some .cell => true | some .free => true | _ => false)
      | .local => decide (y.1 ∈ own.map (·.1)) || decide (y.1 ∉ N)
      | .cell => decide (y.1 ∈ own.map (·.1)) || decide (y.1 ∉ N)
      | _ => true)
theorem blkOk_by {N : List Str} {sc scope : Scope} {own : List (Str × Nat)} (h : blkC N sc scope own = true) : BlkOk N sc scope own := by
  unfold blkC at h
  simp only [Bool.and_eq_true, List.all_eq_true, decide_eq_true_eq] at h
  obtain ⟨⟨⟨h1, h2⟩, h3⟩, h4⟩ := h
  refine ⟨?_, h2, h3, fun y hy e => ?_, fun y hy e => ?_⟩
  · split at h1
    · assumption
    · cases h1
  · have q := h4 y hy
    simp only [e] at q
    split at q <;> first | exact .inl (by assumption) | exact .inr (by assumption) | cases q
  · have q := h4 y hy
    rcases e with e | e <;> (simp only [e, Bool.or_eq_true, decide_eq_true_eq] at q; exact q)
end L2
namespace L2
open PySem PySem.Spec PyProof.Rows
section
variable {prog : Program} {w : World} {A : Around} {R : Result → Shared → Prop} {s : Shared} {elt t0 i0 t1 i1 : Expr} {ifs0 ifs1 : List Expr} {scope : Scope} {pos : Pos} {it acc : Value} {env : Env}
end
section
variable {X : Cx}
end
end L2
namespace L2
open PySem PySem.Spec PyProof.Rows
section
variable {κ : Type} [DecidableEq κ]
end
section
variable {P : Program} {w : World} {H : Hp} {h : Heap} {a : Addr}
end
section
variable {X : Cx} {pins : List (Addr × Obj)} {σ : St} {H : Hp} {s : Shared} {a : Addr} {y v : V} {u r : Value} {o : Option V} {A : Around} {E : Value → Shared → Prop}
end
section
variable {X : Cx} {pins : List (Addr × Obj)} {σ : St} {H : Hp} {s : Shared} {a : Addr} {kvs : List (Key × V)} {k : Key} {u : Value} {A : Around} {E : Value → Shared → Prop}
end
section
variable {X : Cx} {o i e value : Expr} {pos pos' tpos : Pos} {td ty tv : TE}
end
section
variable {X : Cx} {pos : Pos}
end
section
variable {X : Cx} {pins : List (Addr × Obj)} {σ : St} {H : Hp} {s : Shared} {a : Addr} {y d : V} {u r : Value} {o : Option V} {A : Around} {E : Value → Shared → Prop}
end
section
variable {X : Cx} {o e f : Expr} {apos cpos : Pos} {td ty tx : TE}
end
section
variable {X : Cx} {pins : List (Addr × Obj)} {σ : St} {H : Hp} {s : Shared} {a : Addr} {kvs : List (Key × V)} {A : Around} {E : Value → Shared → Prop}
end
section
variable {X : Cx} {pins : List (Addr × Obj)} {σ : St} {H : Hp} {s : Shared} {a : Addr} {y : V} {u : Value} {A : Around} {E : Value → Shared → Prop}
end
end L2
namespace L2
open PySem PySem.Spec PyProof.Rows
section
variable {prog : Program} {w : World} {A : Around} {E : Value → Shared → Prop}
end
section
variable {X : Cx}
end
end L2
namespace L2
open PySem PySem.Spec PyProof.Rows
section
variable {X : Cx} {pins : List (Addr × Obj)} {σ : St} {H : Hp} {s : Shared} {h' : Heap}
theorem Inv.turnedL {t' : Nat} {ch : List Addr} (I : Inv X pins σ H s) (k : ∀ b o, b ∉ ch → s.heap.get? b = some o → h'.get? b = some o) (hf : ∀ b ∈ ch, FpOk X pins H b) : Inv X pins σ H { s with heap := h', toks := t' } := by
  have nit : ∀ b u, H b = some u → b ∉ ch := fun b u e z => by
    have q := (hf b z).1
    rw [q] at e; cases e
  refine I.step (g' := s.gens) (d' := s.drawn) (ch := ch) (fun b hb => ⟨(hf b hb).2.2.2.1, (hf b hb).2.1, (hf b hb).2.2.2.2.1, (hf b hb).2.2.2.2.2⟩) (fun b o _ _ hc e _ => k b o hc e) (fun b o _ _ hc e _ => ⟨o.slots, k b o hc e⟩)
    (fun _ _ _ _ n => n) (fun b o hc e => ⟨o, k b o hc e⟩) (fun _ _ e => e) (fun _ _ _ e => e) (fun b ps e => ⟨#[], by rw [e]; simp⟩) (fun m hm => ?_) (fun b u e => ?_) I.bare
  · obtain ⟨o, es, ep, ho, r⟩ := hm
    exact ⟨o, es, ep, k _ o (fun z => (hf _ z).2.1 rfl) ho, r⟩
  · refine (I.hok b u e).stay (fun c v hc q => k c v ?_ q) (fun _ q => q) fun _ _ q => q
    rcases hc with z | z
    · rw [z]; exact nit b u e
    · exact nit c _ z
theorem Inv.turnedNew {t' : Nat} {ch : List Addr} {T : Addr} {ob : HO} (I : Inv X pins σ H s) (k : ∀ b o, b ∉ ch → s.heap.get? b = some o → h'.get? b = some o) (hf : ∀ b ∈ ch, FpOk X pins H b) (hT : s.heap.objs.size ≤ T)
    (new : ObjOk X.prog X.w (upd H T ob) h' T ob) : Inv X pins σ (upd H T ob) { s with heap := h', toks := t' } := by
  have hn : H T = none := I.hok.fresh hT
  have nit : ∀ b u, H b = some u → b ∉ ch := fun b u e z => by
    have q := (hf b z).1
    rw [q] at e; cases e
  refine I.step (g' := s.gens) (d' := s.drawn) (ch := ch) (fun b hb => ⟨(hf b hb).2.2.2.1, (hf b hb).2.1, (hf b hb).2.2.2.2.1, (hf b hb).2.2.2.2.2⟩) (fun b o _ _ hc e _ => k b o hc e) (fun b o _ _ hc e _ => ⟨o.slots, k b o hc e⟩)
    (fun b o _ e n => ?_) (fun b o hc e => ⟨o, k b o hc e⟩) (fun b xs e => ?_) (fun b o u e => ?_) (fun b ps e => ⟨#[], ?_⟩) (fun m hm => ?_) (fun b u e => ?_) I.bare
  · rw [upd_ne (Nat.ne_of_lt (Nat.lt_of_lt_of_le (Heap.lt_size e) hT))]; exact n
  · rw [upd_ne (ne_of_none e hn)]; exact e
  · rw [upd_ne (ne_of_none e hn)]; exact e
  · rw [upd_ne (ne_of_none e hn), e]; simp
  · obtain ⟨o, es, ep, ho, r⟩ := hm
    exact ⟨o, es, ep, k _ o (fun z => (hf _ z).2.1 rfl) ho, r⟩
  · by_cases hb : b = T
    · subst hb
      rw [upd_same] at e
      cases e
      exact new
    · rw [upd_ne hb] at e
      refine (I.hok b u e).stay (fun c v hc q => k c v ?_ q) (fun c q => by rw [upd_ne (ne_of_none q hn)]; exact q) fun c xs q => by rw [upd_ne (ne_of_none q hn)]; exact q
      rcases hc with z | z
      · rw [z]; exact nit b u e
      · exact nit c _ z
end
section
variable {X : Cx}
theorem pi_one {tg : Expr} {pins : List (Addr × Obj)} {σ : St} {H : Hp} {s : Shared} {R : It → Hp → Prop} {J : It} {tn : Nat → Heap → Prop} {tk : Nat} (I : Inv X pins σ H s) (o : Obj)
    (T : Turn X.prog X.w X.K tg J [s.heap.objs.size] s.heap.objs.size tn) (st : tn 0 (s.heap.push o)) (q : R J H) : PIE X pins σ tg R (.ref s.heap.objs.size) { s with heap := s.heap.push o, toks := tk } := by
  refine ⟨s.heap.objs.size, [s.heap.objs.size], tn, J, H, rfl, I.kept fun b ob e => Heap.get?_push_of_some _ e, T, st, fun b hb => ?_, q⟩
  have e : b = s.heap.objs.size := by simpa using hb
  subst e
  exact I.fpOk (Nat.le_refl _) (I.hok.fresh (Nat.le_refl _))
end
def Itc (lo c : Int) (n : Nat) : It := ⟨fun i _ => i < n, fun i H x H' => H' = H ∧ x = .int (lo + (i : Nat) * c), fun i _ => n ≤ i⟩
theorem turn_rangeC {P : Program} {w : World} {K : PySem.W.Frag} {tg : Expr} (it : Addr) (lo c : Int) (n : Nat) : Turn P w K tg (Itc lo c n) [it] it (fun i h => IsRangeIter h it (lo + (i : Nat) * c) ((n : Int) - (i : Nat)) c) where
  mem := by simp
  obj := fun i h st b hb => by
    have e : b = it := by simpa using hb
    subst e
    exact ⟨_, st, fun v z => nomatch z⟩
  keep := fun i h h' st k => k it (by simp) _ st
  item := by
    intro X hP hw hK hc i pins s σ H E I hf st hg
    subst hP hw hK
    obtain ⟨f0, f1, f2, f3, f4, f5⟩ := hf it (by simp)
    have W := Walks.range (prog := X.prog) (w := X.w) (I.ok.hd hc) it lo c n
    refine W.item i s _ _ hg st fun v h' tk hv st' kk => ?_
    obtain ⟨t, rfl⟩ := hv
    have I1 : Inv X pins σ H { s with heap := h', toks := tk } := I.turned (fun b o hb e => kk b o (by simpa using hb) e) f0 f1 f3 f4 f5
    exact ⟨_, rfl, go_of (s := { s with heap := h', toks := tk }) (n := "range_iterator") st' rfl rfl (by decide) ⟨.int (lo + (i : Nat) * c), H, I1, ⟨t, rfl⟩, ⟨rfl, rfl⟩, st', fun b hb => (hf b hb).1⟩⟩
  done := by
    intro X hP hw hK hc i pins s σ H E I hf st hg
    subst hP hw hK
    obtain ⟨f0, f1, f2, f3, f4, f5⟩ := hf it (by simp)
    exact wpAny_pyNext_range_end (I.ok.hd hc) st (by have : n ≤ i := hg; omega) fun h' eb => ⟨rfl, I.turned (t' := s.toks) (fun b o hb e => eb b o hb e) f0 f1 f3 f4 f5⟩
  self := fun A i s Q E st h => wpAny_pyIter_rangeiter st h
def RgC (i j c : Int) (n : Nat) : Prop := c ≠ 0 ∧ c.natAbs < 1073741824 ∧ Builtin.Range.small i j c = true ∧ Builtin.Range.rangeSize i j c = n
theorem RgC.neg {i j : Int} (ha : -(2 ^ 62) ≤ i) (ha' : i < 2 ^ 62) (hb : -(2 ^ 62) ≤ j) (hb' : j < 2 ^ 62) : RgC i j (-1) (i - j).toNat :=
  ⟨by decide, by decide, PySem.W.small_down ha ha' hb hb', PySem.W.rangeSize_downNat i j⟩
def iRng3 (ta : TA) : TI := fun σ H R => ta σ H fun vs H1 => ∃ (i j c : Int) (n : Nat), vs = [.int i, .int j, .int c] ∧ RgC i j c n ∧ R (Itc i c n) H1
section
variable {X : Cx} {tg : Expr}
theorem pi_range3 {a b c : Expr} {ta : TA} {p pos : Pos} (hg : Gl X "range") (hm : X.mg "range" = none) (ha : PA X [a, b, c] ta)
    (hs : starEach [a, b, c] X.env = (false, eval a X.env) :: starEach [b, c] X.env := by rfl) (hpl : (backTo pos (starEach [b, c] X.env)).any (·.1) = false := by rfl) :
    PI X tg (.Call (.Name "range" p) [a, b, c] [] pos) (iRng3 ta) := by
  intro pins s σ H R I h
  refine Call_ (ld_blt I hg hm boot_range (PyProof.Rows.callWith_type1 (thn (ha pos pins s σ H _ I h) fun us s1 ⟨vs, H1, I1, r1, q1⟩ => ?_) hs hpl))
  obtain ⟨i, j, k, n, e, ⟨c0, c1, c2, c3⟩, q⟩ := q1
  subst e
  cases r1 with
  | cons r rr =>
    cases rr with
    | cons r' rr =>
      cases rr with
      | cons r'' rr =>
        cases rr
        obtain ⟨t, rfl⟩ := r
        obtain ⟨t', rfl⟩ := r'
        obtain ⟨t'', rfl⟩ := r''
        refine call_range_3 c0 ?_ (.inl (PyProof.noPylong_small c1))
        refine wpAny_pyIter_range (IsRange.new ..) c2 ?_
        have I2 : Inv X pins σ H1 { s1 with heap := s1.heap.push { cls := .type "range", data := .fields #[.int i t, .int j t', .int k t''] } } := I1.kept (t' := s1.toks) fun b o e => Heap.get?_push_of_some _ e
        refine pi_one (tk := s1.toks) I2 _ (turn_rangeC _ i k n) ?_ q
        have e1 : i + ((0 : Nat) : Int) * k = i := by simp
        have e2 : (n : Int) - ((0 : Nat) : Int) = Builtin.Range.rangeSize i j k := by rw [c3]; simp
        show IsRangeIter _ _ (i + ((0 : Nat) : Int) * k) ((n : Int) - ((0 : Nat) : Int)) k
        rw [e1, e2]
        exact Heap.get?_push_size _ rfl
end
theorem for_rangeC {lo c : Int} {n : Nat} {g : TG} {tb : TS} {D : Ends} {σ : St} {H : Hp} (Pv : Nat → St → Hp → Prop) (h0 : Pv 0 σ H)
    (hs : ∀ i σ H, i < n → Pv i σ H → g (.int (lo + (i : Nat) * c)) σ H fun σ2 H2 => tb { D with nx := Pv (i + 1), ct := Pv (i + 1), bk := D.nx } σ2 H2) (hd : ∀ σ H, Pv n σ H → D.nx σ H) :
    ∃ W : Nat → Nat → St → Hp → Prop, (∃ m, W 0 m σ H) ∧ ∀ i m σ H, W i m σ H →
      ((Itc lo c n).stop i H ∧ D.nx σ H) ∨ ((Itc lo c n).go i H ∧ ∃ N : St → Hp → Prop, (∀ σ' H', N σ' H' → ∃ m', m' < m ∧ W (i + 1) m' σ' H') ∧ ∀ x H', (Itc lo c n).yld i H x H' → g x σ H' fun σ2 H2 => tb { D with nx := N, ct := N, bk := D.nx } σ2 H2) := by
  refine ⟨fun i m σ H => m = n - i ∧ i ≤ n ∧ Pv i σ H, ⟨n, by simp, Nat.zero_le _, h0⟩, ?_⟩
  rintro i m σ H ⟨rfl, hi, p⟩
  by_cases hlt : i < n
  · refine .inr ⟨hlt, Pv (i + 1), fun σ' H' p' => ⟨n - (i + 1), by omega, rfl, hlt, p'⟩, fun x H' y => ?_⟩
    obtain ⟨e, y⟩ := y
    subst e y
    exact hs i σ _ hlt p
  · have e : i = n := by omega
    subst e
    exact .inl ⟨Nat.le_refl _, hd σ H p⟩
section
variable {X : Cx} {tg : Expr}
end
section
variable {prog : Program} {w : World} {A : Around} {E : Value → Shared → Prop} {s : Shared}
end
section
variable {X : Cx} {pins : List (Addr × Obj)} {σ : St} {H : Hp} {s : Shared} {d : Addr} {o : Obj}
end
section
variable {P : Program} {w : World} {K : PySem.W.Frag} {tg : Expr} {d : Addr} {o : Obj} {es : Array DictEntry} {ep : Nat}
end
section
variable {X : Cx} {tg e : Expr} {td : TE} {apos cpos : Pos}
end
theorem boot_zip5 : bootBuiltins "zip" = some (.type "zip") := by decide +kernel
def Itz (K : PySem.W.Frag) (a b : Addr) : It :=
  ⟨fun i H => ∃ (xs ys : List V) (x y : V), SqL K H a xs ∧ SqL K H b ys ∧ xs[i]? = some x ∧ ys[i]? = some y,
    fun i H v H' => ∃ T x y, v = .ref T ∧ H T = none ∧ H' = upd H T (.tup [x, y]) ∧ (∀ xs, SqL K H a xs → xs[i]? = some x) ∧ ∀ ys, SqL K H b ys → ys[i]? = some y,
    fun i H => ∃ xs ys : List V, SqL K H a xs ∧ SqL K H b ys ∧ (xs.length ≤ i ∨ ys.length ≤ i)⟩
theorem turn_zip {P : Program} {w : World} {K : PySem.W.Frag} {elts : List Expr} {kk : Nat} {tpos : Pos} {a b z TI TO i1 i2 : Addr} (D : ZipApart z TI TO i1 i2 a b) :
    Turn P w K (.Tuple elts kk tpos) (Itz K a b) [z, TI, TO, i1, i2] z (fun i h => IsZip h z TI TO .none ∧ IsPair h TI (.ref i1) (.ref i2) ∧ (∃ x y, IsPair h TO x y) ∧ h.IsListIter i1 a i ∧ h.IsListIter i2 b i) where
  mem := by simp
  obj := fun i h st c hc => by
    obtain ⟨hz, hTI, ⟨x, y, hTO⟩, ⟨o1, e1, _, d1⟩, ⟨o2, e2, _, d2⟩⟩ := st
    have e' : c = z ∨ c = TI ∨ c = TO ∨ c = i1 ∨ c = i2 := by simpa using hc
    rcases e' with q | q | q | q | q
    · rw [q]; exact ⟨_, hz, fun v q => nomatch q⟩
    · rw [q]; exact ⟨_, hTI, fun v q => nomatch q⟩
    · rw [q]; exact ⟨_, hTO, fun v q => nomatch q⟩
    · rw [q]; exact ⟨o1, e1, fun v q => by rw [d1] at q; cases q⟩
    · rw [q]; exact ⟨o2, e2, fun v q => by rw [d2] at q; cases q⟩
  keep := fun i h h' st k => by
    obtain ⟨hz, hTI, ⟨x, y, hTO⟩, h1, h2⟩ := st
    exact ⟨k z (by simp) _ hz, k TI (by simp) _ hTI, ⟨x, y, k TO (by simp) _ hTO⟩, h1.at fun o q => k i1 (by simp) o q, h2.at fun o q => k i2 (by simp) o q⟩
  item := by
    intro X hP hw hK hc i pins s σ H E I hf st hg
    subst hP hw hK
    obtain ⟨hz, hTI, ⟨x0, y0, hTO⟩, h1, h2⟩ := st
    obtain ⟨xs, ys, x, y, hqx, hqy, hx, hy⟩ := hg
    obtain ⟨its, rv, p, _⟩ := I.list hqx
    obtain ⟨its2, rv2, p2, _⟩ := I.list hqy
    obtain ⟨u, hu, ru⟩ := rv.get hx
    obtain ⟨u2, hu2, ru2⟩ := rv2.get hy
    have hzl : z < s.heap.objs.size := Heap.lt_size hz
    refine wpAny_pyNext_zip_item D hz hTI hTO h1 h2 p.isList p2.isList (x := u) (y := u2) (by simpa using hu) (by simpa using hu2) fun h' z' TO' h1' h2' hT hsz hk => ?_
    refine ⟨_, rfl, wpAny_letOwnedTupleGo_zip (s := { s with heap := h' }) z' fun h'' z'' sb => ?_⟩
    have hT2 : h''.get? s.heap.objs.size = some { cls := .type "tuple", data := .seq #[u, u2] } := (sb.2 _ (Nat.ne_of_gt hzl)).trans hT
    have new : ObjOk X.prog X.w (upd H s.heap.objs.size (.tup [x, y])) h'' s.heap.objs.size (.tup [x, y]) :=
      ⟨by show 2 ≤ sizeLine; decide, [u, u2], .cons ru (.cons ru2 .nil), ⟨_, hT2, rfl, _, rfl⟩⟩
    have I1 : Inv X pins σ (upd H s.heap.objs.size (.tup [x, y])) { s with heap := h'' } :=
      I.turnedNew (t' := s.toks) (ch := [z, TI, TO, i1, i2]) (fun c o hb q => (sb.2 c (fun q' => hb (by simp [q']))).trans (hk c o (fun q' => hb (by simp [q'])) (fun q' => hb (by simp [q'])) (fun q' => hb (by simp [q'])) (fun q' => hb (by simp [q'])) q)) hf (Nat.le_refl _) new
    refine ⟨.ref s.heap.objs.size, _, I1, rfl, ⟨_, x, y, rfl, I.hok.fresh (Nat.le_refl _), rfl, fun l hl => by rw [I.list_inj hl hqx]; exact hx, fun l hl => by rw [I.list_inj hl hqy]; exact hy⟩, ⟨z'', ?_, ⟨u, u2, ?_⟩, ?_, ?_⟩, fun c hcm => ?_⟩
    · exact (sb.2 _ D.TIz).trans (hk _ _ D.TIz D.TITO D.TIi1 D.TIi2 hTI)
    · exact (sb.2 _ D.TOz).trans TO'
    · exact h1'.at fun o q => (sb.2 _ D.i1z).trans q
    · exact h2'.at fun o q => (sb.2 _ D.i2z).trans q
    · have hlt : c < s.heap.objs.size := by
        have e' : c = z ∨ c = TI ∨ c = TO ∨ c = i1 ∨ c = i2 := by simpa using hcm
        rcases e' with q | q | q | q | q
        · rw [q]; exact hzl
        · rw [q]; exact Heap.lt_size hTI
        · rw [q]; exact Heap.lt_size hTO
        · rw [q]; obtain ⟨_, e1, _⟩ := h1; exact Heap.lt_size e1
        · rw [q]; obtain ⟨_, e2, _⟩ := h2; exact Heap.lt_size e2
      rw [upd_ne (Nat.ne_of_lt hlt)]
      exact (hf c hcm).1
  done := by
    intro X hP hw hK hc i pins s σ H E I hf st hg
    subst hP hw hK
    obtain ⟨hz, hTI, ⟨x0, y0, hTO⟩, h1, h2⟩ := st
    obtain ⟨xs, ys, hqx, hqy, hend⟩ := hg
    obtain ⟨its, rv, p, _⟩ := I.list hqx
    obtain ⟨its2, rv2, p2, _⟩ := I.list hqy
    have l1 := rv.length
    have l2 := rv2.length
    have he : its.toArray[i]? = none ∨ its2.toArray[i]? = none := by
      rcases hend with q | q
      · exact .inl (by simp; omega)
      · exact .inr (by simp; omega)
    exact wpAny_pyNext_zip_end (I.ok.hd hc) D hz hTI hTO h1 h2 p.isList p2.isList he fun h' hk => ⟨rfl, I.turnedL (t' := s.toks) (ch := [z, TI, TO, i1, i2]) (fun c o hb q =>
      hk c o (fun q' => hb (by simp [q'])) (fun q' => hb (by simp [q'])) (fun q' => hb (by simp [q'])) (fun q' => hb (by simp [q'])) q) hf⟩
  self := fun A i s Q E st h => wpAny_pyIter_zip st.1 h
def iZip (K : PySem.W.Frag) (ta : TA) : TI := fun σ H R => ta σ H fun vs H1 => ∃ a b xs ys, vs = [.ref a, .ref b] ∧ SqL K H1 a xs ∧ SqL K H1 b ys ∧ R (Itz K a b) H1
theorem pi_zip {X : Cx} {e e2 : Expr} {ta : TA} {p pos tpos : Pos} {elts : List Expr} {kk : Nat} (hg : Gl X "zip") (hm : X.mg "zip" = none) (ha : PA X [e, e2] ta)
    (hs : starEach [e, e2] X.env = (false, eval e X.env) :: starEach [e2] X.env := by rfl) (hpl : (backTo pos (starEach [e2] X.env)).any (·.1) = false := by rfl) :
    PI X (.Tuple elts kk tpos) (.Call (.Name "zip" p) [e, e2] [] pos) (iZip X.K ta) := by
  intro pins s σ H R I h
  refine Call_ (ld_blt I hg hm boot_zip5 (PyProof.Rows.callWith_type1 (thn (ha pos pins s σ H _ I h) fun us s1 ⟨vs, H1, I1, r1, q1⟩ => ?_) hs hpl))
  obtain ⟨a, b, xs, ys, ex, hqx, hqy, q⟩ := q1
  subst ex
  cases r1 with
  | cons r rr =>
    cases rr with
    | cons r' rr =>
      cases rr
      cases r
      cases r'
      obtain ⟨its, rv, p1, _⟩ := I1.list hqx
      obtain ⟨its2, rv2, p2, _⟩ := I1.list hqy
      have la : a < s1.heap.objs.size := p1.lt
      have lb : b < s1.heap.objs.size := p2.lt
      refine call_zip_2 p1.isList p2.isList fun h' hz hTI hTO h1 h2 hsz hk => wpAny_pyIter_zip hz ?_
      have I2 : Inv X pins σ H1 { s1 with heap := h' } := I1.kept (t' := s1.toks) hk
      refine ⟨s1.heap.objs.size + 4, [s1.heap.objs.size + 4, s1.heap.objs.size + 2, s1.heap.objs.size + 3, s1.heap.objs.size, s1.heap.objs.size + 1], _, _, H1, rfl, I2, turn_zip (PySem.W.ktu_apart s1.heap.objs.size a b la lb), ⟨hz, hTI, ⟨_, _, hTO⟩, h1, h2⟩, fun c hcm => ?_, q⟩
      have e' : c = s1.heap.objs.size + 4 ∨ c = s1.heap.objs.size + 2 ∨ c = s1.heap.objs.size + 3 ∨ c = s1.heap.objs.size ∨ c = s1.heap.objs.size + 1 := by simpa using hcm
      have hle : s1.heap.objs.size ≤ c := by
        rcases e' with z | z | z | z | z
        · rw [z]; exact Nat.le_add_right _ _
        · rw [z]; exact Nat.le_add_right _ _
        · rw [z]; exact Nat.le_add_right _ _
        · rw [z]; exact Nat.le_refl _
        · rw [z]; exact Nat.le_add_right _ _
      exact I1.fpOk hle (I1.hok.fresh hle)
end L2
section 
namespace Bits
open PySem PyProof.Rows
end Bits
end 
section 
namespace TL
open PySem PySem.Builtin PySem.Builtin.Str PySem.StrLaws
end TL
end 
namespace L2
open PySem PySem.Spec PyProof.Rows
section
variable {X : Cx} {pins : List (Addr × Obj)} {σ : St} {H : Hp} {s : Shared} {Q : VK}
end
section
variable {X : Cx}
end
section
variable {X : Cx} {o e : Expr} {to te : TE}
end
end L2
namespace L2
open PySem PySem.Spec PyProof.Rows
section
variable {X : Cx}
end
end L2
namespace Att
open PySem PySem.W PySem.Calls PyProof.Rows
section
variable {prog : Program} {w : World} {A : Around} {E : Value → Shared → Prop} {s : Shared} {K : Frag}
end
end Att
namespace L2
open PySem PySem.Spec PyProof.Rows
end L2
namespace L2
open PySem PySem.Spec PyProof.Rows
abbrev KOf {K : PySem.W.Frag} {h : Heap} (_ : K.In h) : PySem.W.Frag := K
end L2
namespace L2
open PySem PySem.Spec PyProof.Rows
def inClass (s : Stmt) (j : Nat) : Stmt := match s with
  | .ClassDef _ _ _ body _ _ _ _ _ _ _ => body.getD j (.Pass ⟨0, 0, 0, 0⟩)
  | _ => .Pass ⟨0, 0, 0, 0⟩
def defArgs (s : Stmt) : Arguments := match s with
  | .FunctionDef _ a _ _ _ _ _ _ _ _ => a
  | _ => { posonlyargs := [], args := [], vararg := none, kwonlyargs := [], kw_defaults := [], kwarg := none, defaults := [] }
def defBody (s : Stmt) : List Stmt := match s with
  | .FunctionDef _ _ b _ _ _ _ _ _ _ => b
  | _ => []
def defScope (s : Stmt) : Scope := match s with
  | .FunctionDef _ _ _ _ _ _ sc _ _ _ => sc
  | _ => { kind := .function, names := [], isGenerator := false, isCoroutine := false }
abbrev CX0 : CXT := fun _ _ _ _ _ _ => False
abbrev E0 : XK := fun _ _ _ => False
theorem pass0 {X : Cx} : Passes CX0 X E0 := fun _ _ _ _ _ _ _ h => h.elim
structure Fun (K : PySem.W.Frag) (x qual : Str) (st : Stmt) (f : Addr) (fd : FuncData) : Prop where
  ex : ∃ (oc : Value) (od : Option Addr) (kV doc pm : Value) (an : Option Addr) (cdv ct : Value) (osl : Array (Option Value)),
    fd = PySem.W.fnOf x qual (defArgs st) (defBody st) (defScope st) .none kV doc pm an cdv ct ∧ K.lookup f = some ⟨oc, od, .func fd, osl⟩ ∧ PySem.W.codeIn K cdv qual = true
  kp : PySem.W.keepIn K (.ref f) = true
section
variable {P : Program} {w : World} {K : PySem.W.Frag} {mg : Str → Option Value} {base : Heap}
theorem Fun.ok {x qual : Str} {st : Stmt} {f : Addr} {fd : FuncData} {N ps : List Str} {k : Nat} {sp : Sp} (F : Fun K x qual st f fd) (S : FnScope N ps (defScope st)) (len : ∀ vs H Q E, sp vs H Q E → vs.length = ps.length)
    (hbody : ∀ (cdv : Value) (A : Around) (outer : List Env) (s : Shared) (H : Hp) (vs : List V) (Q : VK) (E : XK), Room k (A.deeper (envOfC qual (defScope st) s.heap.objs.size f cdv)) → sp vs H Q E →
      ∃ t, PSs (cxOf CX0 P w K mg base N qual (defScope st) f cdv A outer s H E).nox (defBody st) t ∧ t { nx := fun _ H' => Q .non H', rt := Q } (start N vs) H) : FnOk P w K mg base CX0 (k + 1) f fd ps sp := by
  obtain ⟨oc, od, kV, doc, pm, an, cdv, ct, osl, rfl, lk, hcd⟩ := F.ex
  refine fn_of lk hcd S len fun A outer s H vs Q E hr hsp => ?_
  obtain ⟨t, h, q⟩ := hbody cdv A outer s H vs Q E hr hsp
  exact ⟨t, h.nox, q⟩
theorem Fun.binds {x qual : Str} {st : Stmt} {f : Addr} {fd : FuncData} {ps : List Str} (F : Fun K x qual st f fd)
    (h : ∀ (kV doc pm : Value) (an : Option Addr) (cdv ct : Value) (us : List Value), us.length = ps.length → bindArgs (PySem.W.fnOf x qual (defArgs st) (defBody st) (defScope st) .none kV doc pm an cdv ct) ⟨us, []⟩ = pure (ps.zip us)) : Binds K fd ps [] := by
  obtain ⟨oc, od, kV, doc, pm, an, cdv, ct, osl, rfl, lk, hcd⟩ := F.ex
  exact .all (h kV doc pm an cdv ct)
theorem fun_mk {x qual : Str} {st : Stmt} {f : Addr} {oc : Value} {od an : Option Addr} {osl : Array (Option Value)} {kV doc pm cdv ct : Value} (l : K.lookup f = some ⟨oc, od, .func (PySem.W.fnOf x qual (defArgs st) (defBody st) (defScope st) .none kV doc pm an cdv ct), osl⟩)
    (c : PySem.W.codeIn K cdv qual = true) (k : PySem.W.keepIn K (.ref f) = true) : Fun K x qual st f (PySem.W.fnOf x qual (defArgs st) (defBody st) (defScope st) .none kV doc pm an cdv ct) := ⟨⟨oc, od, kV, doc, pm, an, cdv, ct, osl, rfl, l, c⟩, k⟩
end
section
variable {X : Cx}
theorem pv (i : Nat) {x : Str} {pos : Pos} (hN : X.N[i]? = some x := by rfl) (hv : Vis X.env.scope x := by first | exact Or.inl rfl | exact Or.inr (Or.inl rfl) | exact Or.inr (Or.inr rfl)) (hd : (x == ("__debug__" : Str)) = false := by decide)
    (hcd : (x == ("__classdict__" : Str)) = false := by decide) : PE X (.Name x pos) (tVar i) := pe_var hN hv hd hcd
end
theorem iteF {A B : Prop} (h : B) : if false = true then A else B := by
  rw [if_neg Bool.false_ne_true]
  exact h
theorem iteT {A B : Prop} (h : A) : if true = true then A else B := by
  rw [if_pos rfl]
  exact h
theorem ite2 {c A B : Prop} [Decidable c] (h1 : c → A) (h2 : ¬ c → B) : if c then A else B := by
  by_cases h : c
  · rw [if_pos h]
    exact h1 h
  · rw [if_neg h]
    exact h2 h
theorem iteNS {c A B : Prop} [Decidable c] (hc : c) (h : B) : if (!decide c) = true then A else B := by
  rw [decide_eq_true hc]
  exact iteF h
def Same (H H' : Hp) : Prop := ∀ b o, H b = some o → H' b = some o
theorem Same.trans {H H1 H2 : Hp} (a : Same H H1) (b : Same H1 H2) : Same H H2 := fun c o h => b c o (a c o h)
theorem Same.free {H H' : Hp} (e : Same H H') {l : Addr} (h : H' l = Option.none) : H l = Option.none := by
  cases q : H l with
  | none => rfl
  | some o =>
    rw [e l o q] at h
    cases h
section
variable {κ : Type} [DecidableEq κ]
end
theorem nd_ix {α : Type} {l : List α} (hN : l.Nodup) {i j : Nat} {x : α} (a : l[i]? = some x) (b : l[j]? = some x) : i = j := by
  obtain ⟨h1, e1⟩ := List.getElem?_eq_some_iff.mp a
  obtain ⟨h2, e2⟩ := List.getElem?_eq_some_iff.mp b
  exact (List.getElem_inj hN).mp (e1.trans e2.symm)
theorem Same.made {H H1 : Hp} {x dx C : Addr} (nx : H x = Option.none) (nd : H dx = Option.none) (k : ∀ b o, (upd (upd H dx (.own x)) x (.ins C dx [])) b = some o → b ≠ x → H1 b = some o) : Same H H1 := fun b o e =>
  k b o (by rw [upd_ne (ne_of_none e nx), upd_ne (ne_of_none e nd)]; exact e) (ne_of_none e nx)
end L2
section
set_option Elab.async false
set_option linter.all false
set_option maxRecDepth 100000
set_option maxHeartbeats 2000000
namespace L2
open PySem PySem.Spec PyProof.Rows
open PySem.W (WData Codec OpenSpec Well WellAll ReadsW ReadsAllW)
mutual
inductive Dw (K : PySem.W.Frag) (H : Hp) : V → WData → Prop
  | non : Dw K H .non .none
  | bl (b : Bool) : Dw K H (.bl b) (.bool b)
  | int (i : Int) : Dw K H (.int i) (.int i)
  | str (x : Str) : Dw K H (.str x) (.str x)
  | byt (b : Array UInt8) : Dw K H (.byt b) (.bytes b.toList)
  | lst {a : Addr} {xs : List V} {ds : List WData} : SqL K H a xs → DwAll K H xs ds → Dw K H (.ref a) (.list ds)
  | tup {a : Addr} {xs : List V} {ds : List WData} : SqT K H a xs → DwAll K H xs ds → Dw K H (.ref a) (.tuple ds)
inductive DwAll (K : PySem.W.Frag) (H : Hp) : List V → List WData → Prop
  | nil : DwAll K H [] []
  | cons {v : V} {vs : List V} {d : WData} {ds : List WData} : Dw K H v d → DwAll K H vs ds → DwAll K H (v :: vs) (d :: ds)
end
theorem dw_ints {K : PySem.W.Frag} {H : Hp} : ∀ ns : List Int, DwAll K H (ns.map V.int) (ns.map WData.int)
  | [] => .nil
  | n :: r => .cons (.int n) (dw_ints r)
theorem ints_dw {K : PySem.W.Frag} {H : Hp} : ∀ (ns : List Int) (xs : List V), DwAll K H xs (ns.map WData.int) → xs = ns.map V.int
  | [], xs, h => by
    cases h
    rfl
  | n :: r, xs, h => by
    cases h with
    | cons h1 h2 =>
      cases h1
      rw [ints_dw r _ h2] <;> rfl
section
variable {P : Program} {w : World} {K : PySem.W.Frag} {H : Hp} {h : Heap} {R : PySem.W.WRecords} {cl : Str → Option Addr}
theorem sqL_at {a : Addr} {xs : List V} (hok : HOk P w H h) (KX : K.In h) (q : SqL K H a xs) : ∃ (its : List Value) (o : Obj) (n : Nat), Vals xs its ∧ h.get? a = some o ∧ o.cls = .type "list" ∧ o.data = .seq its.toArray n := by
  rcases q with q | ⟨o, its, n, e, hc, _, hd, _, hv⟩
  · obtain ⟨_, its, n, hv, e⟩ := (show ObjOk P w H h a (.lst xs) from q.ok hok)
    exact ⟨its, _, n, hv, e, rfl, rfl⟩
  · exact ⟨its.toList, o, n, hv, KX _ _ e, hc, by simp [hd]⟩
theorem sqT_at {a : Addr} {xs : List V} (hok : HOk P w H h) (KX : K.In h) (q : SqT K H a xs) : ∃ (its : List Value) (o : Obj) (n : Nat), Vals xs its ∧ h.get? a = some o ∧ o.cls = .type "tuple" ∧ o.data = .seq its.toArray n := by
  rcases q with q | ⟨o, its, n, e, hc, hd, _, hv⟩
  · obtain ⟨_, its, hv, o, e, hc, n, hd⟩ := (show ObjOk P w H h a (.tup xs) from q.ok hok)
    exact ⟨its, o, n, hv, e, hc, hd⟩
  · exact ⟨its.toList, o, n, hv, KX _ _ e, hc, by simp [hd]⟩
mutual
theorem Dw.reads (hok : HOk P w H h) (KX : K.In h) : ∀ (d : WData) (v : V) (u : Value), Dw K H v d → RelV v u → ∃ as, ReadsW R cl h u d as
  | .none, _, _, x, r => by
    cases x
    cases r
    exact ⟨_, ReadsW.none⟩
  | .bool b, _, _, x, r => by
    cases x
    cases r
    exact ⟨_, ReadsW.bool b⟩
  | .int i, _, _, x, r => by
    cases x
    obtain ⟨t, rfl⟩ := r
    exact ⟨_, ReadsW.int i t⟩
  | .str s, _, _, x, r => by
    cases x
    obtain ⟨t, rfl⟩ := r
    exact ⟨_, ReadsW.str s t⟩
  | .bytes b, _, _, x, r => by
    cases x
    obtain ⟨t, rfl⟩ := r
    exact ⟨_, ReadsW.bytes _ t⟩
  | .list ds, _, _, x, r => by
    cases x with
    | lst hs ha =>
      cases r
      obtain ⟨its, o, n, rv, ho, hc, hd⟩ := sqL_at hok KX hs
      obtain ⟨as, hr⟩ := Dw.readsAll hok KX ds _ its ha rv
      exact ⟨_, ReadsW.list ho hc hd hr⟩
  | .tuple ds, _, _, x, r => by
    cases x with
    | tup hs ha =>
      cases r
      obtain ⟨its, o, n, rv, ho, hc, hd⟩ := sqT_at hok KX hs
      obtain ⟨as, hr⟩ := Dw.readsAll hok KX ds _ its ha rv
      exact ⟨_, ReadsW.tuple ho hc hd hr⟩
  | .float _, _, _, x, _ => by cases x
  | .dict _, _, _, x, _ => by cases x
  | .bytearray _, _, _, x, _ => by cases x
  | .set _, _, _, x, _ => by cases x
  | .frozenset _, _, _, x, _ => by cases x
  | .obj _ _, _, _, x, _ => by cases x
theorem Dw.readsAll (hok : HOk P w H h) (KX : K.In h) : ∀ (ds : List WData) (vs : List V) (us : List Value), DwAll K H vs ds → Vals vs us → ∃ as, ReadsAllW R cl h us ds as
  | [], _, _, x, r => by
    cases x
    cases r
    exact ⟨_, ReadsAllW.nil⟩
  | d :: ds, _, _, x, r => by
    cases x with
    | cons h1 h2 =>
      cases r with
      | cons r1 r2 =>
        obtain ⟨as, q1⟩ := Dw.reads hok KX d _ _ h1 r1
        obtain ⟨bs, q2⟩ := Dw.readsAll hok KX ds _ _ h2 r2
        exact ⟨_, ReadsAllW.cons q1 q2⟩
end
end
mutual
def plW : WData → Bool
  | .none => true
  | .bool _ => true
  | .int _ => true
  | .str _ => true
  | .bytes _ => true
  | .list xs => plWs xs
  | .tuple xs => plWs xs
  | _ => false
def plWs : List WData → Bool
  | [] => true
  | x :: r => plW x && plWs r
end
theorem plWs_map {α : Type} {f : α → WData} (h : ∀ a, plW (f a) = true) : ∀ l : List α, plWs (l.map f) = true
  | [] => rfl
  | x :: r => by
    show (plW (f x) && plWs (r.map f)) = true
    rw [h x, plWs_map h r] <;> rfl
theorem pl_enc : ∀ (c : Codec) (a : c.denote), plW (c.enc a) = true
  | .unit, _ => rfl
  | .bool, _ => rfl
  | .int _ _, _ => rfl
  | .nat _ _, _ => rfl
  | .u8, _ => rfl
  | .bytes _ _, _ => rfl
  | .text _ _ _ _, _ => rfl
  | .list _ _ c, a => plWs_map (fun x => pl_enc c x) a
  | .pair c d, a => by
    show (plW (c.enc a.1) && (plW (d.enc a.2) && true)) = true
    rw [pl_enc c a.1, pl_enc d a.2] <;> rfl
  | .triple c d e, a => by
    show (plW (c.enc a.1) && (plW (d.enc a.2.1) && (plW (e.enc a.2.2) && true))) = true
    rw [pl_enc c a.1, pl_enc d a.2.1, pl_enc e a.2.2] <;> rfl
  | .option c, none => rfl
  | .option c, some x => pl_enc c x
theorem pl_encAll : ∀ (cs : List Codec) (a : Codec.denoteAll cs), plWs (Codec.encAll cs a) = true
  | [], _ => rfl
  | c :: cs, a => by
    show (plW (c.enc a.1) && plWs (Codec.encAll cs a.2)) = true
    rw [pl_enc c a.1, pl_encAll cs a.2] <;> rfl
theorem weight_mem : ∀ {xs : List WData} {d : WData}, d ∈ xs → d.weight ≤ WData.weightAll xs
  | [], d, h => absurd h (by simp)
  | x :: r, d, h => by
    show d.weight ≤ x.weight + 1 + WData.weightAll r
    rcases List.mem_cons.mp h with e | m
    · rw [e]
      omega
    · have z := weight_mem m
      omega
def toV : Value → V
  | .none => .non
  | .bool b => .bl b
  | .int i _ => .int i
  | .str x _ => .str x
  | .bytes b _ => .byt b
  | .ref a => .ref a
  | _ => .non
def OkU (A : List Addr) : Value → Prop
  | .none => True
  | .bool _ => True
  | .int _ _ => True
  | .str _ _ => True
  | .bytes _ _ => True
  | .ref a => a ∈ A
  | _ => False
theorem OkU.mono {A B : List Addr} (h : ∀ a ∈ A, a ∈ B) : ∀ {u : Value}, OkU A u → OkU B u := fun {u} x => by
  cases u with
  | ref a => exact h a x
  | none => trivial
  | bool b => trivial
  | int i t => trivial
  | str s t => trivial
  | bytes b t => trivial
  | _ => exact False.elim x
theorem relV_toV {A : List Addr} {u : Value} (x : OkU A u) : RelV (toV u) u := by
  cases u with
  | ref a => rfl
  | none => rfl
  | bool b => rfl
  | int i t => exact ⟨t, rfl⟩
  | str s t => exact ⟨t, rfl⟩
  | bytes b t => exact ⟨t, rfl⟩
  | _ => exact False.elim x
theorem vals_toV {A : List Addr} : ∀ {vs : List Value}, (∀ u ∈ vs, OkU A u) → Vals (vs.map toV) vs
  | [], _ => .nil
  | u :: r, h => .cons (relV_toV (h u (List.mem_cons_self ..))) (vals_toV fun x hx => h x (List.mem_cons_of_mem _ hx))
def ArgOb (h : Heap) (A : List Addr) (a : Addr) : Prop := ∃ vs : List Value, vs.length ≤ sizeLine ∧ (∀ u ∈ vs, OkU A u) ∧
  (h.get? a = some { cls := .type "list", data := .seq vs.toArray } ∨ h.get? a = some { cls := .type "tuple", data := .seq vs.toArray })
theorem ArgOb.mono {h : Heap} {A B : List Addr} {a : Addr} (k : ∀ a ∈ A, a ∈ B) (x : ArgOb h A a) : ArgOb h B a := by
  obtain ⟨vs, h1, h2, h3⟩ := x
  exact ⟨vs, h1, fun u hu => (h2 u hu).mono k, h3⟩
theorem wellAll_len {P : Params} {h : Heap} : ∀ {vs : List Value} {ds : List WData}, WellAll P h vs ds → vs.length = ds.length
  | _, _, .nil => rfl
  | _, _, .cons _ b => by
    show _ + 1 = _ + 1
    rw [wellAll_len b]
theorem well_list {P : Params} {h : Heap} {v : Value} {ds : List WData} (x : Well P h v (.list ds)) : ∃ (a : Addr) (vs : List Value), v = .ref a ∧ h.get? a = some { cls := .type "list", data := .seq vs.toArray } ∧ WellAll P h vs ds := by
  cases x with
  | list ho hall => exact ⟨_, _, rfl, ho, hall⟩
theorem well_tuple {P : Params} {h : Heap} {v : Value} {ds : List WData} (x : Well P h v (.tuple ds)) : ∃ (a : Addr) (vs : List Value), v = .ref a ∧ h.get? a = some { cls := .type "tuple", data := .seq vs.toArray } ∧ WellAll P h vs ds := by
  cases x with
  | tuple ho hall => exact ⟨_, _, rfl, ho, hall⟩
theorem well_cons {P : Params} {h : Heap} {us : List Value} {d : WData} {ds : List WData} (x : WellAll P h us (d :: ds)) : ∃ (v : Value) (vs : List Value), us = v :: vs ∧ Well P h v d ∧ WellAll P h vs ds := by
  cases x with
  | cons a b => exact ⟨_, _, rfl, a, b⟩
theorem line_of {n : Nat} (h : n ≤ 1048576) : n ≤ sizeLine := Nat.le_trans h (by decide)
section
variable {P : Params} {h : Heap}
mutual
theorem area_one : ∀ (d : WData) (v : Value), Well P h v d → plW d = true → d.weight ≤ 1048576 → ∃ A : List Addr, OkU A v ∧ ∀ a ∈ A, ArgOb h A a
  | .none, _, x, _, _ => by
    cases x
    exact ⟨[], trivial, fun a m => absurd m (by simp)⟩
  | .bool b, _, x, _, _ => by
    cases x
    exact ⟨[], trivial, fun a m => absurd m (by simp)⟩
  | .int i, _, x, _, _ => by
    cases x
    exact ⟨[], trivial, fun a m => absurd m (by simp)⟩
  | .str s, _, x, _, _ => by
    cases x
    exact ⟨[], trivial, fun a m => absurd m (by simp)⟩
  | .bytes b, _, x, _, _ => by
    cases x
    exact ⟨[], trivial, fun a m => absurd m (by simp)⟩
  | .list ds, _, x, p, z => by
    obtain ⟨a, vs, rfl, ho, hall⟩ := well_list x
    have z2 : WData.weightAll ds ≤ 1048576 := z
    obtain ⟨A, h1, h2⟩ := area_all ds _ hall p fun d hd => Nat.le_trans (weight_mem hd) z2
    have k : ∀ b ∈ A, b ∈ a :: A := fun b hb => List.mem_cons_of_mem _ hb
    refine ⟨a :: A, List.mem_cons_self .., fun b hb => ?_⟩
    rcases List.mem_cons.mp hb with e | m
    · rw [e]
      exact ⟨vs, line_of (by rw [wellAll_len hall]; exact Nat.le_trans (PySem.W.length_le_weightAllW ds) z2), fun u hu => (h1 u hu).mono k, .inl ho⟩
    · exact (h2 b m).mono k
  | .tuple ds, _, x, p, z => by
    obtain ⟨a, vs, rfl, ho, hall⟩ := well_tuple x
    have z2 : WData.weightAll ds ≤ 1048576 := z
    obtain ⟨A, h1, h2⟩ := area_all ds _ hall p fun d hd => Nat.le_trans (weight_mem hd) z2
    have k : ∀ b ∈ A, b ∈ a :: A := fun b hb => List.mem_cons_of_mem _ hb
    refine ⟨a :: A, List.mem_cons_self .., fun b hb => ?_⟩
    rcases List.mem_cons.mp hb with e | m
    · rw [e]
      exact ⟨vs, line_of (by rw [wellAll_len hall]; exact Nat.le_trans (PySem.W.length_le_weightAllW ds) z2), fun u hu => (h1 u hu).mono k, .inr ho⟩
    · exact (h2 b m).mono k
  | .float _, _, _, p, _ => Bool.noConfusion (show false = true from p)
  | .dict _, _, _, p, _ => Bool.noConfusion (show false = true from p)
  | .bytearray _, _, _, p, _ => Bool.noConfusion (show false = true from p)
  | .set _, _, _, p, _ => Bool.noConfusion (show false = true from p)
  | .frozenset _, _, _, p, _ => Bool.noConfusion (show false = true from p)
  | .obj _ _, _, _, p, _ => Bool.noConfusion (show false = true from p)
theorem area_all : ∀ (ds : List WData) (vs : List Value), WellAll P h vs ds → plWs ds = true → (∀ d ∈ ds, d.weight ≤ 1048576) → ∃ A : List Addr, (∀ u ∈ vs, OkU A u) ∧ ∀ a ∈ A, ArgOb h A a
  | [], _, x, _, _ => by
    cases x
    exact ⟨[], fun u m => absurd m (by simp), fun a m => absurd m (by simp)⟩
  | d :: ds, _, x, p, z => by
    obtain ⟨v, vs, rfl, x1, x2⟩ := well_cons x
    have q : plW d = true ∧ plWs ds = true := Bool.and_eq_true_iff.mp p
    obtain ⟨A, a1, a2⟩ := area_one d v x1 q.1 (z d (List.mem_cons_self ..))
    obtain ⟨B, b1, b2⟩ := area_all ds vs x2 q.2 fun e he => z e (List.mem_cons_of_mem _ he)
    have kA : ∀ b ∈ A, b ∈ A ++ B := fun b hb => List.mem_append.mpr (.inl hb)
    have kB : ∀ b ∈ B, b ∈ A ++ B := fun b hb => List.mem_append.mpr (.inr hb)
    refine ⟨A ++ B, fun u hu => ?_, fun b hb => ?_⟩
    · rcases List.mem_cons.mp hu with e | m
      · rw [e]
        exact a1.mono kA
      · exact (b1 u m).mono kB
    · rcases List.mem_append.mp hb with m | m
      · exact (a2 b m).mono kA
      · exact (b2 b m).mono kB
end
end
def hoOf (o : Obj) : Option HO := match o.data with
  | .seq vs _ => if (o.cls == Value.type "list") = true then some (.frz o (.lst (vs.toList.map toV))) else some (.frz o (.tup (vs.toList.map toV)))
  | _ => none
def argH (K : PySem.W.Frag) (h : Heap) (A : List Addr) : Hp := fun b => if b ∈ A then (if (K.lookup b).isNone = true then (h.get? b).bind hoOf else none) else none
def OnlyF (H : Hp) : Prop := ∀ b, H b = none ∨ ∃ o u, H b = some (.frz o u)
theorem hoOf_lst (vs : List Value) : hoOf { cls := .type "list", data := .seq vs.toArray } = some (.frz { cls := .type "list", data := .seq vs.toArray } (.lst (vs.map toV))) := by
  show (if (Value.type "list" == Value.type "list") = true then some (HO.frz { cls := .type "list", data := .seq vs.toArray } (.lst (vs.toArray.toList.map toV))) else some (HO.frz { cls := .type "list", data := .seq vs.toArray } (.tup (vs.toArray.toList.map toV)))) = _
  rw [if_pos (beq_self_eq_true _)]
theorem hoOf_tup (vs : List Value) : hoOf { cls := .type "tuple", data := .seq vs.toArray } = some (.frz { cls := .type "tuple", data := .seq vs.toArray } (.tup (vs.map toV))) := by
  show (if (Value.type "tuple" == Value.type "list") = true then some (HO.frz { cls := .type "tuple", data := .seq vs.toArray } (.lst (vs.toArray.toList.map toV))) else some (HO.frz { cls := .type "tuple", data := .seq vs.toArray } (.tup (vs.toArray.toList.map toV)))) = _
  rw [if_neg (by decide)]
section
variable {P : Program} {w : World} {K : PySem.W.Frag} {h : Heap} {A : List Addr}
theorem argH_at {b : Addr} {o : Obj} (hb : b ∈ A) (hk : K.lookup b = none) (e : h.get? b = some o) : argH K h A b = hoOf o := by
  unfold argH
  rw [if_pos hb, hk, if_pos (show (none : Option Obj).isNone = true from rfl), e] <;> rfl
theorem of_argH {b : Addr} {u : HO} (q : argH K h A b = some u) : b ∈ A ∧ K.lookup b = none := by
  unfold argH at q
  by_cases hb : b ∈ A
  · rw [if_pos hb] at q
    cases hk : K.lookup b with
    | none => exact ⟨hb, rfl⟩
    | some o =>
      rw [hk, if_neg (by simp)] at q
      cases q
  · rw [if_neg hb] at q
    cases q
theorem argH_is (ar : ∀ a ∈ A, ArgOb h A a) {b : Addr} {u : HO} (q : argH K h A b = some u) : K.lookup b = none ∧ ∃ vs : List Value, vs.length ≤ sizeLine ∧ (∀ u ∈ vs, OkU A u) ∧
    ((h.get? b = some { cls := .type "list", data := .seq vs.toArray } ∧ u = .frz { cls := .type "list", data := .seq vs.toArray } (.lst (vs.map toV))) ∨
     (h.get? b = some { cls := .type "tuple", data := .seq vs.toArray } ∧ u = .frz { cls := .type "tuple", data := .seq vs.toArray } (.tup (vs.map toV)))) := by
  obtain ⟨hb, hk⟩ := of_argH q
  obtain ⟨vs, h1, h2, h3⟩ := ar b hb
  refine ⟨hk, vs, h1, h2, ?_⟩
  rcases h3 with e | e
  · rw [argH_at hb hk e, hoOf_lst] at q
    exact .inl ⟨e, (Option.some.inj q).symm⟩
  · rw [argH_at hb hk e, hoOf_tup] at q
    exact .inr ⟨e, (Option.some.inj q).symm⟩
theorem argH_only (ar : ∀ a ∈ A, ArgOb h A a) : OnlyF (argH K h A) := fun b => by
  cases q : argH K h A b with
  | none => exact .inl rfl
  | some u =>
    obtain ⟨_, vs, _, _, ⟨_, e⟩ | ⟨_, e⟩⟩ := argH_is ar q
    · exact .inr ⟨_, _, by rw [e]⟩
    · exact .inr ⟨_, _, by rw [e]⟩
theorem argH_ok (ar : ∀ a ∈ A, ArgOb h A a) : HOk P w (argH K h A) h := fun b u q => by
  obtain ⟨_, vs, h1, h2, ⟨e, rfl⟩ | ⟨e, rfl⟩⟩ := argH_is ar q
  · exact ⟨e, by rw [List.length_map]; exact h1, vs, _, vals_toV h2, e⟩
  · exact ⟨e, by rw [List.length_map]; exact h1, vs, vals_toV h2, _, e, rfl, _, rfl⟩
theorem seq_inj {c c' : Value} {vs us : List Value} (e : (some { cls := c, data := .seq vs.toArray } : Option Obj) = some { cls := c', data := .seq us.toArray }) : c = c' ∧ vs = us := by
  have e1 := Option.some.inj e
  have e2 : c = c' := congrArg Obj.cls e1
  have e3 : Data.seq vs.toArray = Data.seq us.toArray := congrArg Obj.data e1
  injection e3 with e4
  refine ⟨e2, ?_⟩
  have e5 := congrArg Array.toList e4
  simpa using e5
theorem argL (KX : K.In h) (ar : ∀ a ∈ A, ArgOb h A a) {a : Addr} {vs : List Value} (ha : a ∈ A) (e : h.get? a = some { cls := .type "list", data := .seq vs.toArray }) : (∀ u ∈ vs, OkU A u) ∧ SqL K (argH K h A) a (vs.map toV) := by
  obtain ⟨us, h1, h2, h3⟩ := ar a ha
  have hu : us = vs := by
    rcases h3 with q | q
    · rw [e] at q
      exact (seq_inj q).2.symm
    · rw [e] at q
      exact absurd (Value.type.inj (seq_inj q).1) (by decide)
  subst hu
  refine ⟨h2, ?_⟩
  cases hk : K.lookup a with
  | none => exact .inl (.inr ⟨_, by rw [argH_at ha hk e, hoOf_lst]⟩)
  | some o =>
    have e2 := KX a o hk
    rw [e] at e2
    obtain rfl := Option.some.inj e2
    exact .inr ⟨_, us.toArray, _, hk, rfl, rfl, rfl, by rw [List.size_toArray]; exact h1, by simpa using vals_toV h2⟩
theorem argT (KX : K.In h) (ar : ∀ a ∈ A, ArgOb h A a) {a : Addr} {vs : List Value} (ha : a ∈ A) (e : h.get? a = some { cls := .type "tuple", data := .seq vs.toArray }) : (∀ u ∈ vs, OkU A u) ∧ SqT K (argH K h A) a (vs.map toV) := by
  obtain ⟨us, h1, h2, h3⟩ := ar a ha
  have hu : us = vs := by
    rcases h3 with q | q
    · rw [e] at q
      exact absurd (Value.type.inj (seq_inj q).1) (by decide)
    · rw [e] at q
      exact (seq_inj q).2.symm
  subst hu
  refine ⟨h2, ?_⟩
  cases hk : K.lookup a with
  | none => exact .inl (.inr ⟨_, by rw [argH_at ha hk e, hoOf_tup]⟩)
  | some o =>
    have e2 := KX a o hk
    rw [e] at e2
    obtain rfl := Option.some.inj e2
    exact .inr ⟨_, us.toArray, _, hk, rfl, rfl, by rw [List.size_toArray]; exact h1, by simpa using vals_toV h2⟩
mutual
theorem dw_one {Pm : Params} (KX : K.In h) (ar : ∀ a ∈ A, ArgOb h A a) : ∀ (d : WData) (v : Value), Well Pm h v d → plW d = true → OkU A v → Dw K (argH K h A) (toV v) d
  | .none, _, x, _, _ => by
    cases x
    exact .non
  | .bool b, _, x, _, _ => by
    cases x
    exact .bl b
  | .int i, _, x, _, _ => by
    cases x
    exact .int i
  | .str s, _, x, _, _ => by
    cases x
    exact .str s
  | .bytes b, _, x, _, _ => by
    cases x
    have z := Dw.byt (K := K) (H := argH K h A) b.toArray
    exact z
  | .list ds, _, x, p, hu => by
    obtain ⟨a, vs, rfl, ho, hall⟩ := well_list x
    obtain ⟨h2, hs⟩ := argL KX ar hu ho
    exact .lst hs (dw_all KX ar ds _ hall p h2)
  | .tuple ds, _, x, p, hu => by
    obtain ⟨a, vs, rfl, ho, hall⟩ := well_tuple x
    obtain ⟨h2, hs⟩ := argT KX ar hu ho
    exact .tup hs (dw_all KX ar ds _ hall p h2)
  | .float _, _, _, p, _ => Bool.noConfusion (show false = true from p)
  | .dict _, _, _, p, _ => Bool.noConfusion (show false = true from p)
  | .bytearray _, _, _, p, _ => Bool.noConfusion (show false = true from p)
  | .set _, _, _, p, _ => Bool.noConfusion (show false = true from p)
  | .frozenset _, _, _, p, _ => Bool.noConfusion (show false = true from p)
  | .obj _ _, _, _, p, _ => Bool.noConfusion (show false = true from p)
theorem dw_all {Pm : Params} (KX : K.In h) (ar : ∀ a ∈ A, ArgOb h A a) : ∀ (ds : List WData) (vs : List Value), WellAll Pm h vs ds → plWs ds = true → (∀ u ∈ vs, OkU A u) → DwAll K (argH K h A) (vs.map toV) ds
  | [], _, x, _, _ => by
    cases x
    exact .nil
  | d :: ds, _, x, p, hu => by
    obtain ⟨v, vs, rfl, x1, x2⟩ := well_cons x
    have q : plW d = true ∧ plWs ds = true := Bool.and_eq_true_iff.mp p
    exact .cons (dw_one KX ar d v x1 q.1 (hu _ (List.mem_cons_self ..))) (dw_all KX ar ds vs x2 q.2 fun u m => hu u (List.mem_cons_of_mem _ m))
end
end
theorem spec_call {P : Program} {w : World} {K : PySem.W.Frag} {mg mb : Str → Option Value} {CX : CXT} {k : Nat} {fa : Addr} {fd : FuncData} {ps : List Str} {sp : Sp} {s₁ : Shared} {vals : List Value} {ds : List WData} {R : PySem.W.WRecords} {cl : Str → Option Addr} {d0 : WData}
    (KX : K.In s₁.heap) (hns : s₁.heap.Ns mainGlobals mg) (hb : s₁.heap.Ns builtinsNs mb) (hbb : ∀ x : Str, x ≠ "__name__" → mb x = bootBuiltins x) (hlim : s₁.heap.NoLimit) (hg : s₁.gens = #[])
    (hwl : WellAll w.params s₁.heap vals ds) (hpl : plWs ds = true) (hwt : ∀ d ∈ ds, d.weight ≤ 1048576) (hr : Room k callerA)
    (F : ∀ base : Heap, K.In base → base.Ns mainGlobals mg → FnOk P w K mg base CX k fa fd ps sp) (hbind : ∀ (s : Shared) (us : List Value), us.length = ps.length → BindsTo s fd ⟨us, []⟩ (ps.zip us)) (hlen : ds.length = ps.length)
    (hsp : ∀ (H : Hp) (xs : List V), OnlyF H → DwAll K H xs ds → sp xs H (fun v H' => Dw K H' v d0) fun _ _ _ => False)
    (hCX : ∀ H e s', CX [] H s₁ (fun _ _ _ => False) e s' → False) :
    codeAny (model P w) callerA (.call (.ref fa) ⟨vals, []⟩) (fun r s' => ∃ u as, r = .ok (.ret u) ∧ ReadsW R cl s'.heap u d0 as ∧ OldK s₁.heap s'.heap ∧ s'.os = s₁.os ∧ AllBare s'.gens) s₁ := by
  obtain ⟨A, ho, ar⟩ := area_all ds vals hwl hpl hwt
  have hO : OnlyF (argH K s₁.heap A) := argH_only ar
  have hok : HOk P w (argH K s₁.heap A) s₁.heap := argH_ok ar
  have hS := dw_all KX ar ds vals hwl hpl ho
  have hV := vals_toV ho
  have hK : ∀ b u, argH K s₁.heap A b = some u → K.lookup b = none := fun b u q => (argH_is ar q).1
  have noA : ∀ {b : Addr} {o : Obj} {es : Array DictEntry} {ep : Nat}, s₁.heap.get? b = some o → o.data = .dict es ep → argH K s₁.heap A b = none := fun {b o es ep} e d => by
    cases q : argH K s₁.heap A b with
    | none => rfl
    | some u =>
      obtain ⟨_, vs, _, _, ⟨e2, _⟩ | ⟨e2, _⟩⟩ := argH_is ar q
      · rw [e2] at e
        cases e
        have d' : Data.seq vs.toArray _ = Data.dict es ep := d
        cases d'
      · rw [e2] at e
        cases e
        have d' : Data.seq vs.toArray _ = Data.dict es ep := d
        cases d'
  generalize argH K s₁.heap A = H at hO hok hS hK noA
  have base_of : ∀ {b : Addr} {o : Obj}, s₁.heap.get? b = some o → H b = none → (hidT s₁.heap H).get? b = some o := fun e n => hidT_get e n
  have nsK : ∀ {b : Addr} {m : Str → Option Value}, s₁.heap.Ns b m → (hidT s₁.heap H).Ns b m := fun {b m} ⟨o, es, ep, e, d, r⟩ => ⟨o, es, ep, base_of e (noA e d), d, r⟩
  have nK : ∀ b o, K.lookup b = some o → H b = none := fun b o e => by
    cases q : H b with
    | none => rfl
    | some u =>
      rw [hK b u q] at e
      cases e
  have hKb : K.In (hidT s₁.heap H) := fun b o e => base_of (KX b o e) (nK b o e)
  have hM : Mod K mg (hidT s₁.heap H) := ⟨hKb, nsK hns, ⟨mb, nsK hb, hbb⟩, let ⟨mc, h1, h2⟩ := hlim; ⟨mc, nsK h1, h2⟩⟩
  have e0 : Env0 P w K mg (hidT s₁.heap H) callerA [] s₁ H := ⟨rfl, hM, fun b o e => of_hidT e, Nat.le_of_eq (hidT_size _ _), trivial, fun b hb => absurd (show b ∈ ([] : List Addr) from hb) (by simp), hok, .of_eq hg⟩
  have hl : vals.length = ps.length := by rw [wellAll_len hwl]; exact hlen
  refine codeAny_mono ((F _ hKb (nsK hns)).run callerA [] s₁ H ⟨vals, []⟩ vals (vals.map toV) _ _ hr e0 (hbind s₁ vals hl) hV (hsp H _ hO hS)) fun r s' x => ?_
  cases r with
  | error e => exact (hCX H e s' x).elim
  | ok fl =>
    cases fl with
    | next => exact False.elim x
    | brk => exact False.elim x
    | cont => exact False.elim x
    | ret u =>
      obtain ⟨v, H', os, bare, un, hok', r', q⟩ := x
      have kept : ∀ b o, s₁.heap.get? b = some o → s'.heap.get? b = some o := fun b o e => by
        cases q2 : H b with
        | none => exact un.keep b o e q2 (by intro z; exact absurd (show b ∈ ([] : List Addr) from z) (by simp)) (by simp)
        | some u2 =>
          rcases hO b with z | ⟨ob, u3, z⟩
          · rw [q2] at z
            cases z
          · have z2 := un.frzs b ob _ z
            obtain ⟨e1, _⟩ := hok b _ z
            obtain ⟨e2, _⟩ := hok' b _ z2
            rw [e] at e1
            cases e1
            exact e2
      have KX' : K.In s'.heap := fun b o e => kept b o (KX b o e)
      obtain ⟨as, hrd⟩ := Dw.reads (R := R) (cl := cl) hok' KX' d0 v u q r'
      exact ⟨u, as, rfl, hrd, OldK.of_keep kept, os, bare⟩
theorem layable_weight {ds : List WData} (h : WData.layableAll ds = true) : ∀ d ∈ ds, d.weight ≤ 1048576 := fun d hd =>
  (PySem.W.layableW_iff.mp (List.all_eq_true.mp h d hd)).2.2
theorem encAll_len : ∀ (cs : List Codec) (a : Codec.denoteAll cs), (Codec.encAll cs a).length = cs.length
  | [], _ => rfl
  | c :: cs, a => by
    show (Codec.encAll cs a.2).length + 1 = cs.length + 1
    rw [encAll_len cs a.2]
theorem walk_spec {r : OpenSpec} {k : Nat} {q : Program} {loose : List Str} {XP : (Str → Option Value) → Heap → Prop} {YP : World → Heap → Prop} {d : DefRec} {K : Params → PySem.W.Frag} {CX : World → CXT} {ps : List Str} {sp : World → Sp}
    (hwell : r.wellSaid = true) (hdf : d.params.defaults = []) (hlen : r.args.length = ps.length) (hr : Room k callerA)
    (hY : ∀ (w : World) (h : Heap), YP w h → (K w.params).In h)
    (F : ∀ (w : World) (mg : Str → Option Value) (fa : Addr) (h : Heap), YP w h → (K w.params).In h → h.Ns mainGlobals mg → mg d.name = some (.ref fa) →
      ∃ fd : FuncData, (∀ (s : Shared) (us : List Value), us.length = ps.length → BindsTo s fd ⟨us, []⟩ (ps.zip us)) ∧
        ∀ base : Heap, (K w.params).In base → base.Ns mainGlobals mg → FnOk r.prog w (K w.params) mg base (CX w) k fa fd ps (sp w))
    (hsp : ∀ (w : World) (H : Hp) (xs : List V) (a : Codec.denoteAll r.args), OnlyF H → Codec.withinAll r.args a = true → Codec.app r.args r.asked a = true → DwAll (K w.params) H xs (Codec.encAll r.args a) →
      sp w xs H (fun v H' => Dw (K w.params) H' v (r.ret.enc (Codec.app r.args r.f a))) fun _ _ _ => False)
    (hCX : ∀ (w : World) (H : Hp) (s : Shared) (e : Value) (s' : Shared), CX w [] H s (fun _ _ _ => False) e s' → False) :
    PySem.W.WalkOS q loose XP YP r d [] (fun f vs => PySem.call f vs) := by
  intro w s_0 s₁ mg mb G Y fa o pm cd doc dV kV ho hd hcd hD hmg hg args vals as hpre hlay hrd hwl hlo
  obtain ⟨a, e1, e2⟩ := PySem.W.os_pre_some hpre
  obtain ⟨e3, hwi⟩ := Codec.encAll_of_decAll r.args args a e1
  subst e3
  have KX := hY w _ Y
  obtain ⟨fd, hb, hF⟩ := F w mg fa _ Y KX G.T.g hmg
  refine PySem.W.enter_call (codeAny_mono (spec_call (R := []) (cl := classAt s_0.heap) (d0 := r.ret.enc (Codec.app r.args r.f a)) KX G.T.g G.T.b G.T.builtins G.T.nolimit hg hwl (pl_encAll _ _) (layable_weight hlay) hr hF hb (by rw [encAll_len]; exact hlen)
    (fun H xs hO hS => hsp w H xs a hO hwi e2 hS) fun H e s' => hCX w H s₁ e s') fun r' s' hq => ?_)
  obtain ⟨u, as', rfl, h1, h2, h3, h4⟩ := hq
  exact ⟨.inl ⟨u, _, as', rfl, fun _ => rfl, h1, (OpenSpec.post_iff hwell hwi _ _).mpr rfl, fun z => Bool.noConfusion (show false = true from z)⟩, h2, h3, h4⟩
theorem walk_specK {r : OpenSpec} {k : Nat} {q : Program} {loose : List Str} {XP : (Str → Option Value) → Heap → Prop} {YP : World → Heap → Prop} {d : DefRec} {K : Params → PySem.W.Frag} {CX : CXT} {ps : List Str} {sp : PySem.W.Frag → Sp}
    (hwell : r.wellSaid = true) (hdf : d.params.defaults = []) (hlen : r.args.length = ps.length) (hr : Room k callerA)
    (hY : ∀ (w : World) (h : Heap), YP w h → (K w.params).In h)
    (F : ∀ (w : World) (mg : Str → Option Value) (fa : Addr) (h : Heap), YP w h → (K w.params).In h → h.Ns mainGlobals mg → mg d.name = some (.ref fa) →
      ∃ fd : FuncData, (∀ (s : Shared) (us : List Value), us.length = ps.length → BindsTo s fd ⟨us, []⟩ (ps.zip us)) ∧
        ∀ base : Heap, (K w.params).In base → base.Ns mainGlobals mg → FnOk r.prog w (K w.params) mg base CX k fa fd ps (sp (K w.params)))
    (hsp : ∀ (K : PySem.W.Frag) (H : Hp) (xs : List V) (a : Codec.denoteAll r.args), OnlyF H → Codec.withinAll r.args a = true → Codec.app r.args r.asked a = true → DwAll K H xs (Codec.encAll r.args a) →
      sp K xs H (fun v H' => Dw K H' v (r.ret.enc (Codec.app r.args r.f a))) fun _ _ _ => False)
    (hCX : ∀ (H : Hp) (s : Shared) (e : Value) (s' : Shared), CX [] H s (fun _ _ _ => False) e s' → False) :
    PySem.W.WalkOS q loose XP YP r d [] (fun f vs => PySem.call f vs) :=
  walk_spec (K := K) (CX := fun _ => CX) (sp := fun w => sp (K w.params)) hwell hdf hlen hr hY F (fun w H xs a h1 h2 h3 h4 => hsp (K w.params) H xs a h1 h2 h3 h4) fun _ H s e s' => hCX H s e s'
end L2
end

section
set_option Elab.async false
set_option linter.all false
set_option maxRecDepth 100000
set_option maxHeartbeats 2000000
/-! ### rules of my own: set(list), len(set), a slice with a step, walks over zip -/
namespace Dh
open PySem PySem.Spec PyProof.Rows L2
section
variable {X : Cx}
/-- the numbers of a list, each once -/
def dd (ns : List Int) : List Int := firstMet (fun i => ns.getD i 0) ns.length
theorem call_setL (hc : X.calm = true) : CallR X (.type "set") (fun vs H Q => ∃ (a : Addr) (ns : List Int), vs = [.ref a] ∧ SqL X.K H a (ns.map V.int) ∧ ns.length + 1 < scanBound ∧ ∀ p, H p = none → Q (.ref p) (upd H p (.set (fun k => (dd ns).any (· == k)) (dd ns).length))) := by
  intro pins s σ H vs us Q I r h
  obtain ⟨a, ns, rfl, hs, hb, q⟩ := h
  obtain ⟨u, rfl, ru⟩ := vals1 r
  cases ru
  obtain ⟨its, rv, hl, hz⟩ := I.list hs
  have hi : IntsAre its ns := intsAre_of rv
  have hlen : its.toArray.size = ns.length := by rw [List.size_toArray, ← rv.length, List.length_map]
  refine PySem.call_set_list (items := its.toArray) (ns := ns) (I.ok.hd hc) hl.isList hi (by rw [hlen]; exact hb) fun h' tk hS hk => ?_
  rw [hlen] at hS
  exact ⟨.ref s.heap.objs.size, _, I.laid (t' := tk) (o := .set (fun k => (dd ns).any (· == k)) (dd ns).length) (fun b u e => hk b u (Heap.lt_size e) e) (Nat.le_refl _) hS, rfl, q _ (I.hok.fresh (Nat.le_refl _))⟩
theorem call_lenS : CallR X (.builtin "len") (fun xs H Q => ∃ a S n, xs = [V.ref a] ∧ H a = some (.set S n) ∧ Q (.int (n : Nat)) H) := by
  intro pins s σ H xs us Q I r h
  obtain ⟨a, S, n, rfl, ha, q⟩ := h
  obtain ⟨u, rfl, ru⟩ := vals1 r
  cases ru
  obtain ⟨o, es, ep, t, ho, hex, hd, hel, hmem, hb, hf, hn⟩ := I.hok a _ ha
  subst hn
  exact PySem.call_len_set ho hex hd hf (Int.lt_of_lt_of_le (Int.ofNat_lt.mpr hb) (by decide)) ⟨.int (es.size : Nat), H, I.tok _, ⟨_, rfl⟩, q⟩
/-- the items of xs[lo:hi:st] -/
def pickV (xs : List V) (lo hi st : Option Int) : List V := (sliceRange (sliceBounds lo hi st xs.length).1 (sliceBounds lo hi st xs.length).2.1 (sliceBounds lo hi st xs.length).2.2).filterMap fun i => xs[i]?
theorem Vals.none_ {xs : List V} {us : List Value} (r : Vals xs us) {i : Nat} (h : xs[i]? = none) : us[i]? = none := by
  rw [List.getElem?_eq_none_iff] at h ⊢
  rw [← r.length]
  exact h
theorem Vals.pick {xs : List V} {us : List Value} (r : Vals xs us) : ∀ is : List Nat, Vals (is.filterMap fun i => xs[i]?) (is.filterMap fun i => us[i]?)
  | [] => .nil
  | i :: is => by
    cases e : xs[i]? with
    | none =>
      rw [List.filterMap_cons_none e, List.filterMap_cons_none (Vals.none_ r e)]
      exact Vals.pick r is
    | some x =>
      obtain ⟨u, hu, ru⟩ := r.get e
      rw [List.filterMap_cons_some e, List.filterMap_cons_some hu]
      exact .cons ru (Vals.pick r is)
theorem pickV_length (xs : List V) (us : List Value) (r : Vals xs us) (lo hi st : Option Int) : (pickV xs lo hi st).length ≤ xs.length := by
  have h1 := slicePick_size_le us.toArray lo hi st
  have h2 := (Vals.pick r (sliceRange (sliceBounds lo hi st xs.length).1 (sliceBounds lo hi st xs.length).2.1 (sliceBounds lo hi st xs.length).2.2)).length
  unfold pickV
  rw [h2]
  unfold slicePick at h1
  rw [List.size_toArray, List.size_toArray, ← r.length] at h1
  simp only [List.getElem?_toArray] at h1
  exact h1
def tSl3 (K : PySem.W.Frag) (te : TE) (tl th ts : TO) : TE := fun σ H Q => te σ H fun x H1 => tl σ H1 fun l H2 => th σ H2 fun u H3 => ts σ H3 fun c H4 => ∃ a xs, x = .ref a ∧ SqL K H4 a xs ∧ c ≠ some 0 ∧ ∀ p, H4 p = none → Q (.ref p) (upd H4 p (.lst (pickV xs l u c)))
theorem pe_slice3 {e st : Expr} {lo hi : Option Expr} {te : TE} {tl th ts : TO} {pos p2 : Pos} (he : PE X e te) (hl : PO X lo tl) (hu : PO X hi th) (ht : PO X (some st) ts) : PE X (.Subscript e (.Slice lo hi (some st) p2) pos) (tSl3 X.K te tl th ts) := by
  intro pins s σ H Q I h
  refine Subscript_ (thn (he pins s σ H _ I h) fun v s1 ⟨x, H1, I1, r1, q1⟩ => ?_)
  refine wpAny_Slice (thn (hl pins s1 σ H1 _ I1 q1) fun vl s2 ⟨l, H2, I2, pl, q2⟩ => thn (hu pins s2 σ H2 _ I2 q2) fun vu s3 ⟨u, H3, I3, pu, q3⟩ => thn (ht pins s3 σ H3 _ I3 q3) fun vs s4 ⟨c, H4, I4, pc, q4⟩ => ?_)
  have I5 : Inv X pins σ H4 { s4 with heap := s4.heap.push { cls := .type "slice", data := .fields #[vl, vu, vs] } } := I4.kept (t' := s4.toks) fun b ob q => Heap.get?_push_of_some _ q
  obtain ⟨a, xs, rfl, hx, hc, q⟩ := q4
  cases r1
  obtain ⟨its, r, hL, hz⟩ := I5.list hx
  have hlen := r.length
  show wpAny (model X.prog X.w) X.A (subscriptTail e (.Slice lo hi (some st) p2) (.ref a) (.ref s4.heap.objs.size)) (EP X pins σ Q) X.xe { s4 with heap := s4.heap.push { cls := .type "slice", data := .fields #[vl, vu, vs] } }
  refine tail_any (ops := [.ref a, .ref s4.heap.objs.size]) hL.isList.typeIs slot_list_getitem.lookup ?_ (by with_unfolding_all rfl)
  refine wpAny_getItem_list_slice hL.isList (Heap.IsSliceOf.new ..) pl pu pc hc ?_ (by rw [List.size_toArray] <;> omega)
  refine ⟨.ref _, _, I5.laid (t' := s4.toks) (o := .lst (pickV xs l u c)) (fun b ob q => Heap.get?_push_of_some _ q) (Nat.le_refl _) ?_, rfl, q _ (I5.hok.fresh (Nat.le_refl _))⟩
  refine ⟨Nat.le_trans (pickV_length xs its r l u c) hz, _, 0, Vals.pick r _, ?_⟩
  rw [Heap.get?_push_size _ rfl]
  unfold slicePick
  rw [List.size_toArray, ← hlen]
  simp only [List.getElem?_toArray]
end
section
variable {K : PySem.W.Frag} {a b : Addr} {xs ys : List V} {g : TG}
/-- a comprehension over zip of two lists of one length -/
theorem lc_zip {tt : TT} {te : TE} {vs : List Nat} {σ : L2.St} {H1 : Hp} {D : Addr} {Qd : Hp → Prop} (Pv : Nat → Hp → Prop) (h0 : Pv 0 (upd H1 D (.lst []))) (hl : ∀ i H, i ≤ xs.length → Pv i H → SqL K H a xs ∧ SqL K H b ys) (he : xs.length = ys.length)
    (hs : ∀ i x y T H, xs[i]? = some x → ys[i]? = some y → Pv i H → H T = none → g (.ref T) (wipe σ vs) (upd H T (.tup [x, y])) fun σ2 H2 => wipe σ2 vs = wipe σ vs ∧ tt σ2 H2 fun b H3 =>
      if b = true then te σ2 H3 fun y H4 => ∃ acc, H4 D = some (.lst acc) ∧ acc.length < sizeLine ∧ Pv (i + 1) (upd H4 D (.lst (acc ++ [y]))) else Pv (i + 1) H3) (hd : ∀ H, Pv xs.length H → Qd H) :
    ∃ W : Nat → Nat → Hp → Prop, (∃ m, W 0 m (upd H1 D (.lst []))) ∧ ∀ i m H, W i m H →
      ((Itz K a b).stop i H ∧ Qd H) ∨ ((Itz K a b).go i H ∧ ∃ Nx : Hp → Prop, (∀ H', Nx H' → ∃ m', m' < m ∧ W (i + 1) m' H') ∧ ∀ x H', (Itz K a b).yld i H x H' → g x (wipe σ vs) H' fun σ2 H2 => wipe σ2 vs = wipe σ vs ∧ tt σ2 H2 fun b H3 =>
        if b = true then te σ2 H3 fun y H4 => ∃ acc, H4 D = some (.lst acc) ∧ acc.length < sizeLine ∧ Nx (upd H4 D (.lst (acc ++ [y]))) else Nx H3) := by
  refine ⟨fun i m H => m = xs.length - i ∧ i ≤ xs.length ∧ Pv i H, ⟨xs.length, by simp, Nat.zero_le _, h0⟩, ?_⟩
  rintro i m H ⟨rfl, hi, p⟩
  obtain ⟨q1, q2⟩ := hl i H hi p
  by_cases hlt : i < xs.length
  · refine .inr ⟨⟨xs, ys, xs[i], ys[i]'(by omega), q1, q2, by simp [hlt], by simp [show i < ys.length by omega]⟩, Pv (i + 1), fun H' p' => ⟨xs.length - (i + 1), by omega, rfl, hlt, p'⟩, fun x H' y => ?_⟩
    obtain ⟨T, x1, y1, e, hT, eH, y1', y2'⟩ := y
    subst e eH
    exact hs i x1 y1 T _ (y1' xs q1) (y2' ys q2) p hT
  · have e : i = xs.length := by omega
    subst e
    exact .inl ⟨⟨xs, ys, q1, q2, .inl (Nat.le_refl _)⟩, hd H p⟩
/-- a for loop over zip of two lists of one length -/
theorem for_zip {tb : TS} {D : Ends} {σ : L2.St} {H : Hp} (Pv : Nat → L2.St → Hp → Prop) (h0 : Pv 0 σ H) (hl : ∀ i σ H, i ≤ xs.length → Pv i σ H → SqL K H a xs ∧ SqL K H b ys) (he : xs.length = ys.length)
    (hs : ∀ i x y T σ H, xs[i]? = some x → ys[i]? = some y → Pv i σ H → H T = none → g (.ref T) σ (upd H T (.tup [x, y])) fun σ2 H2 => tb { D with nx := Pv (i + 1), ct := Pv (i + 1), bk := D.nx } σ2 H2) (hd : ∀ σ H, Pv xs.length σ H → D.nx σ H) :
    ∃ W : Nat → Nat → L2.St → Hp → Prop, (∃ m, W 0 m σ H) ∧ ∀ i m σ H, W i m σ H →
      ((Itz K a b).stop i H ∧ D.nx σ H) ∨ ((Itz K a b).go i H ∧ ∃ N : L2.St → Hp → Prop, (∀ σ' H', N σ' H' → ∃ m', m' < m ∧ W (i + 1) m' σ' H') ∧ ∀ x H', (Itz K a b).yld i H x H' → g x σ H' fun σ2 H2 => tb { D with nx := N, ct := N, bk := D.nx } σ2 H2) := by
  refine ⟨fun i m σ H => m = xs.length - i ∧ i ≤ xs.length ∧ Pv i σ H, ⟨xs.length, by simp, Nat.zero_le _, h0⟩, ?_⟩
  rintro i m σ H ⟨rfl, hi, p⟩
  obtain ⟨q1, q2⟩ := hl i σ H hi p
  by_cases hlt : i < xs.length
  · refine .inr ⟨⟨xs, ys, xs[i], ys[i]'(by omega), q1, q2, by simp [hlt], by simp [show i < ys.length by omega]⟩, Pv (i + 1), fun σ' H' p' => ⟨xs.length - (i + 1), by omega, rfl, hlt, p'⟩, fun x H' y => ?_⟩
    obtain ⟨T, x1, y1, e, hT, eH, y1', y2'⟩ := y
    subst e eH
    exact hs i x1 y1 T _ _ (y1' xs q1) (y2' ys q2) p hT
  · have e : i = xs.length := by omega
    subst e
    exact .inl ⟨⟨xs, ys, q1, q2, .inl (Nat.le_refl _)⟩, hd σ H p⟩
end
/-! #### each number once -/
theorem dd_len_le (ns : List Int) : (dd ns).length ≤ ns.length := firstMet_length_le _ _
theorem fm_at {f : Nat → Int} : ∀ n, ((firstMet f n).length = n ↔ ∀ i j, i < j → j < n → f i ≠ f j)
  | 0 => by rw [firstMet_zero]; simp
  | n + 1 => by
    rw [firstMet_succ, step_length]
    have ih := fm_at (f := f) n
    have hle := firstMet_length_le f n
    have ha := firstMet_any f n (f n)
    by_cases c : (firstMet f n).any (· == f n) = true
    · rw [if_pos c]
      rw [ha] at c
      obtain ⟨x, hx, e⟩ := List.any_eq_true.mp c
      obtain ⟨i, hi, rfl⟩ := List.mem_map.mp hx
      have hi' := List.mem_range.mp hi
      constructor
      · intro q; omega
      · intro q; exact absurd (eq_of_beq e) (q i n hi' (by omega))
    · rw [if_neg c]
      rw [ha] at c
      constructor
      · intro q i j hij hj
        by_cases hjn : j = n
        · subst hjn
          intro z
          exact c (List.any_eq_true.mpr ⟨f i, List.mem_map.mpr ⟨i, List.mem_range.mpr hij, rfl⟩, by rw [z]; exact beq_self_eq_true _⟩)
        · exact ih.mp (by omega) i j hij (by omega)
      · intro q
        have := ih.mpr fun i j hij hj => q i j hij (by omega)
        omega
theorem dd_nodup (ns : List Int) : (dd ns).length = ns.length ↔ ns.Nodup := by
  unfold dd
  rw [fm_at, List.nodup_iff_pairwise_ne, List.pairwise_iff_getElem]
  constructor
  · intro h i j hi hj hij
    have := h i j hij hj
    simpa [List.getD_eq_getElem?_getD, List.getElem?_eq_getElem hi, List.getElem?_eq_getElem hj] using this
  · intro h i j hij hj
    have := h i j (by omega) hj hij
    simpa [List.getD_eq_getElem?_getD, List.getElem?_eq_getElem (show i < ns.length by omega), List.getElem?_eq_getElem hj] using this
/-! #### lists by places -/
def tab (n : Nat) (f : Nat → V) : List V := (List.range n).map f
section
variable {n k : Nat} {f : Nat → V} {x : V} {l : List V}
theorem tab_len : (tab n f).length = n := by unfold tab; rw [List.length_map, List.length_range]
theorem tab_at (h : k < n) : (tab n f)[k]? = some (f k) := by
  unfold tab
  rw [List.getElem?_map, List.getElem?_range h]
  rfl
theorem tab_succ : tab (n + 1) f = tab n f ++ [f n] := by
  unfold tab
  rw [List.range_succ, List.map_append]
  rfl
theorem tab_inv (h : (tab n f)[k]? = some x) : k < n ∧ x = f k := by
  have hk : k < n := by
    have := (List.getElem?_eq_some_iff.mp h).1
    rw [tab_len] at this
    exact this
  rw [tab_at hk] at h
  exact ⟨hk, (Option.some.inj h).symm⟩
theorem tab_ext (h1 : l.length = n) (h2 : ∀ k, k < n → l[k]? = some (f k)) : l = tab n f := by
  apply List.ext_getElem?
  intro i
  by_cases hi : i < n
  · rw [h2 i hi, tab_at hi]
  · rw [List.getElem?_eq_none (by omega), List.getElem?_eq_none (by rw [tab_len]; omega)]
theorem tab_zero : tab 0 f = [] := rfl
theorem tab_map {α : Type} {xs : List α} {g : α → V} (h : ∀ i (hi : i < xs.length), f i = g xs[i]) : tab xs.length f = xs.map g := by
  symm
  apply tab_ext (by rw [List.length_map])
  intro k hk
  rw [List.getElem?_map, List.getElem?_eq_getElem hk, h k hk]
  rfl
end
theorem _root_.L2.Same.rfl {H : Hp} : Same H H := fun _ _ h => h
theorem _root_.L2.Same.new {H H1 : Hp} {p : Addr} {o : HO} (S : Same H H1) (h : H1 p = none) : Same H (upd H1 p o) := fun b u e => by
  rw [upd_ne (ne_of_none (S b u e) h)]
  exact S b u e
theorem _root_.L2.Same.put {H H1 : Hp} {p : Addr} {o : HO} (S : Same H H1) (h : H p = none) : Same H (upd H1 p o) := fun b u e => by
  rw [upd_ne (ne_of_none e h)]
  exact S b u e
theorem _root_.L2.SqL.same {K : PySem.W.Frag} {H H' : Hp} {a : Addr} {xs : List V} (h : SqL K H a xs) (S : Same H H') : SqL K H' a xs := by
  rcases h with (h | ⟨o, h⟩) | h
  · exact .inl (.inl (S _ _ h))
  · exact .inl (.inr ⟨o, S _ _ h⟩)
  · exact .inr h
/-- a clause without a test -/
theorem yes {σ : L2.St} {H : Hp} {Q : Bool → Hp → Prop} (h : Q true H) : tYes σ H Q := h
theorem free_upd {H : Hp} {p : Addr} {o : HO} : ∀ b, upd H p o b = none → H b = none := fun b h => by
  by_cases q : b = p
  · subst q
    rw [upd_same] at h
    cases h
  · rw [upd_ne q] at h
    exact h
theorem line_lt {n : Nat} (h : n ≤ 100000) : n < sizeLine := Nat.lt_of_le_of_lt h (by decide)
/-! #### rules in a block, by the fragment's name -/
section
variable {X : Cx} {K : PySem.W.Frag}
theorem pg_tupK (hK : X.K = K) {es : List Expr} {k : Nat} {t : TGs} {n : Nat} {pos : Pos} (hc : X.calm = true) (h : PGs X es t) (hn : (assignEach es X.env).length = n := by rfl) (hst : (assignEach es X.env).findIdx? (·.1) = none := by rfl) : PG X (.Tuple es k pos) (gTup K n t) := by
  subst hK
  exact pg_tup hc h hn hst
theorem pe_fldK (hK : X.K = K) {e : Expr} {f : Str} {ta : TE} {pos : Pos} (he : PE X e ta) (hb : attributeBase e f X.env (eval e X.env) = eval e X.env) : PE X (.Attribute e f pos) (tFld K ta f) := by
  subst hK
  exact pe_fld he hb
theorem ix_listK (hK : X.K = K) : IxR X (rIxL K) := by
  subst hK
  exact ix_list
end
end Dh

end
section
set_option Elab.async false
set_option linter.all false
namespace Dh
open Kv346

/-! ### a wave -/
theorem adds_int (w : Wave) (t : Nat) (h1 : 2 ≤ w.each) (h2 : w.low < w.each) :
    ((w.high : Int) * 2 * (if (w.each : Int) - (((t : Int) - w.low) % w.each) < ((t : Int) - w.low) % w.each then (w.each : Int) - (((t : Int) - w.low) % w.each) else ((t : Int) - w.low) % w.each)) / (w.each : Int) = ((w.adds t : Nat) : Int) := by
  unfold Wave.adds
  have hl : w.low % w.each = w.low := Nat.mod_eq_of_lt h2
  have hx : ((t : Int) - w.low) % w.each = (((t + w.each - w.low % w.each) % w.each : Nat) : Int) := by
    rw [hl, Int.natCast_emod, Int.natCast_sub (by omega), Int.natCast_add]
    rw [show ((t : Int) + w.each - w.low) = ((t : Int) - w.low) + w.each by omega, Int.add_emod_right]
  rw [hx]
  generalize hX : (t + w.each - w.low % w.each) % w.each = x
  have hxl : x < w.each := by rw [← hX]; exact Nat.mod_lt _ (by omega)
  dsimp only
  rw [Int.natCast_ediv]
  congr 1
  by_cases hc : (w.each : Int) - (x : Int) < (x : Int)
  · rw [if_pos hc]
    have : min x (w.each - x) = w.each - x := by omega
    rw [this]
    push_cast
    rw [Int.natCast_sub (by omega), Int.mul_assoc]
  · rw [if_neg hc]
    have : min x (w.each - x) = x := by omega
    rw [this]
    push_cast
    rw [Int.mul_assoc]

theorem adds_le (w : Wave) (t : Nat) (h1 : 2 ≤ w.each) : w.adds t ≤ w.high := by
  unfold Wave.adds
  dsimp only
  generalize (t + w.each - w.low % w.each) % w.each = x
  have h : 2 * min x (w.each - x) ≤ w.each := by omega
  calc w.high * (2 * min x (w.each - x)) / w.each ≤ w.high * w.each / w.each := Nat.div_le_div_right (Nat.mul_le_mul_left _ h)
    _ = w.high := Nat.mul_div_cancel _ (by omega)

theorem take_snoc {α : Type} {l : List α} {i : Nat} {x : α} (h : l[i]? = some x) : l.take (i + 1) = l.take i ++ [x] := by
  rw [List.take_add_one, h]
  rfl

/-- the water's height over the first i waves -/
def part (a : Abs) (t i : Nat) : Nat := a.base + ((a.waves.take i).map fun w => w.adds t).sum
theorem part_zero (a : Abs) (t : Nat) : part a t 0 = a.base := by simp [part]
theorem part_succ {a : Abs} {t i : Nat} {w : Wave} (h : a.waves[i]? = some w) : part a t (i + 1) = part a t i + w.adds t := by
  unfold part
  rw [take_snoc h, List.map_append, List.sum_append]
  simp
  omega
theorem part_all (a : Abs) (t : Nat) : part a t a.waves.length = a.height t := by
  unfold part Abs.height
  rw [List.take_length]

/-! ### a run of minutes -/
/-- for how many minutes from t on p holds without a break, at most m -/
def run (p : Nat → Bool) (t : Nat) : Nat → Nat
  | 0 => 0
  | m + 1 => if p t then run p (t + 1) m + 1 else 0
theorem run_le (p : Nat → Bool) : ∀ (m t : Nat), run p t m ≤ m
  | 0, _ => Nat.le_refl _
  | m + 1, t => by
    unfold run
    split
    · exact Nat.succ_le_succ (run_le p m (t + 1))
    · omega
theorem run_dry (p : Nat → Bool) : ∀ (m t k : Nat), k < run p t m → p (t + k) = true
  | 0, t, k, h => by unfold run at h; omega
  | m + 1, t, k, h => by
    unfold run at h
    split at h
    · rename_i hp
      match k, h with
      | 0, _ => exact hp
      | k + 1, h =>
        have := run_dry p m (t + 1) k (by omega)
        rw [show t + (k + 1) = t + 1 + k by omega]
        exact this
    · omega
theorem run_stop (p : Nat → Bool) : ∀ (m t : Nat), run p t m < m → p (t + run p t m) = false
  | 0, t, h => by omega
  | m + 1, t, h => by
    unfold run at h ⊢
    split
    · rename_i hp
      rw [if_pos hp] at h
      have := run_stop p m (t + 1) (by omega)
      rw [show t + (run p (t + 1) m + 1) = t + 1 + run p (t + 1) m by omega]
      exact this
    · rename_i hp
      simpa using hp
theorem run_of {p : Nat → Bool} {t m l : Nat} (h1 : ∀ k, k < l → p (t + k) = true) (h2 : l ≤ m) (h3 : l = m ∨ p (t + l) = false) : run p t m = l := by
  have a := run_le p m t
  by_cases hlt : run p t m < l
  · have b := run_stop p m t (by omega)
    rw [h1 _ hlt] at b
    cases b
  · by_cases hgt : l < run p t m
    · have b := run_dry p m t l hgt
      rcases h3 with h3 | h3
      · omega
      · rw [h3] at b; cases b
    · omega
theorem run_all {p : Nat → Bool} {t n : Nat} : ((List.range n).all fun k => p (t + k)) = decide (run p t n = n) := by
  by_cases h : run p t n = n
  · rw [decide_eq_true h, List.all_eq_true]
    intro k hk
    exact run_dry p n t k (by rw [h]; exact List.mem_range.mp hk)
  · rw [decide_eq_false h, List.all_eq_false]
    have hl : run p t n < n := by have := run_le p n t; omega
    exact ⟨run p t n, List.mem_range.mpr hl, by rw [run_stop p n t hl]; simp⟩
theorem run_any {p : Nat → Bool} {t n : Nat} : ((List.range n).any fun k => !(p (t + k))) = decide (run p t n < n) := by
  by_cases h : run p t n < n
  · rw [decide_eq_true h, List.any_eq_true]
    exact ⟨run p t n, List.mem_range.mpr h, by rw [run_stop p n t h]; rfl⟩
  · rw [decide_eq_false h, List.any_eq_false]
    intro k hk
    have := run_dry p n t k (by have := List.mem_range.mp hk; omega)
    rw [this]; simp

/-! ### the first of a range -/
theorem find_range_some {p : Nat → Bool} {n i : Nat} (h1 : ∀ k, k < i → p k = false) (h2 : p i = true) (h3 : i < n) : (List.range n).find? p = some i := by
  rw [List.find?_range_eq_some]
  exact ⟨h2, List.mem_range.mpr h3, fun j hj => by rw [h1 j hj]; rfl⟩
theorem find_range_none {p : Nat → Bool} {n : Nat} (h1 : ∀ k, k < n → p k = false) : (List.range n).find? p = none := by
  rw [List.find?_range_eq_none]
  intro i hi
  rw [h1 i hi]; rfl
theorem lasts_run (a : Abs) (b t : Nat) : a.lasts b t = run (a.dry b) t SPAN := by
  unfold Abs.lasts
  by_cases h : run (a.dry b) t SPAN < SPAN
  · rw [find_range_some (i := run (a.dry b) t SPAN) (fun k hk => by rw [run_dry _ _ _ _ hk]; rfl) (by rw [run_stop _ _ _ h]; rfl) h]
    rfl
  · have e : run (a.dry b) t SPAN = SPAN := by have := run_le (a.dry b) SPAN t; omega
    rw [find_range_none (fun k hk => by rw [run_dry (a.dry b) SPAN t k (by omega)]; rfl), e]
    rfl
theorem firstOf_some {t i : Nat} {p : Nat → Bool} (h1 : ∀ k, k < i → p (t + k) = false) (h2 : p (t + i) = true) (h3 : i ≤ SPAN) : firstOf t p = some (t + i) := by
  unfold firstOf
  rw [find_range_some (i := i) h1 h2 (by omega)]
  rfl
theorem firstOf_none {t : Nat} {p : Nat → Bool} (h1 : ∀ k, k ≤ SPAN → p (t + k) = false) : firstOf t p = none := by
  unfold firstOf
  rw [find_range_none (fun k hk => h1 k (by omega))]
  rfl
theorem firstOf_le {t s : Nat} {p : Nat → Bool} (h : firstOf t p = some s) : t ≤ s ∧ s ≤ t + SPAN ∧ p s = true := by
  unfold firstOf at h
  cases e : (List.range (SPAN + 1)).find? fun k => p (t + k) with
  | none => rw [e] at h; cases h
  | some k =>
    rw [e] at h
    have hk := List.mem_range.mp (List.mem_of_find?_eq_some e)
    have hp : p (t + k) = true := List.find?_some (p := fun k => p (t + k)) e
    have e2 : t + k = s := Option.some.inj h
    rw [e2] at hp
    exact ⟨by omega, by omega, hp⟩

/-! ### fits -/
theorem fits_eq (a : Abs) (b t n : Nat) : a.fits b t n = firstOf t fun s => decide (run (a.dry b) s n = n) := by
  unfold Abs.fits
  congr 1
  funext s
  exact run_all
/-- a run that is too short rules out what begins within it -/
theorem run_short {p : Nat → Bool} {s n k : Nat} (h : run p s n < n) (hk : k ≤ run p s n) : run p (s + k) n < n := by
  have hs := run_stop p n s h
  rcases Nat.lt_or_ge (run p (s + k) n) n with q | q
  · exact q
  · have := run_dry p n (s + k) (run p s n - k) (by omega)
    rw [show s + k + (run p s n - k) = s + run p s n by omega, hs] at this
    cases this

/-! ### stretches -/
theorem str_tn {a : Abs} {b t n : Nat} (e : a.dry b t = true) : a.stretches b t (n + 1) none = a.stretches b (t + 1) n (some t) := by
  simp only [Abs.stretches, e]
theorem str_ts {a : Abs} {b t n s : Nat} (e : a.dry b t = true) : a.stretches b t (n + 1) (some s) = a.stretches b (t + 1) n (some s) := by
  simp only [Abs.stretches, e]
theorem str_fn {a : Abs} {b t n : Nat} (e : a.dry b t = false) : a.stretches b t (n + 1) none = a.stretches b (t + 1) n none := by
  simp only [Abs.stretches, e]
theorem str_fs {a : Abs} {b t n s : Nat} (e : a.dry b t = false) : a.stretches b t (n + 1) (some s) = (s, t - s) :: a.stretches b (t + 1) n none := by
  simp only [Abs.stretches, e]
theorem run_t {p : Nat → Bool} {t n : Nat} (e : p t = true) : run p t (n + 1) = run p (t + 1) n + 1 := by
  rw [run, if_pos e]
theorem run_f {p : Nat → Bool} {t n : Nat} (e : p t = false) : run p t (n + 1) = 0 := by
  rw [run, if_neg (by rw [e]; simp)]
theorem str_some (a : Abs) (b : Nat) : ∀ (n t s : Nat), s ≤ t → a.stretches b t n (some s) = (s, t + run (a.dry b) t n - s) :: (if run (a.dry b) t n < n then a.stretches b (t + run (a.dry b) t n + 1) (n - run (a.dry b) t n - 1) none else [])
  | 0, t, s, h => by
    unfold Abs.stretches run
    simp
  | n + 1, t, s, h => by
    cases e : a.dry b t with
    | true =>
      rw [str_ts e, run_t e, str_some a b n (t + 1) s (by omega)]
      rw [show t + 1 + run (a.dry b) (t + 1) n = t + (run (a.dry b) (t + 1) n + 1) by omega]
      by_cases h2 : run (a.dry b) (t + 1) n < n
      · rw [if_pos h2, if_pos (by omega), show n + 1 - (run (a.dry b) (t + 1) n + 1) - 1 = n - run (a.dry b) (t + 1) n - 1 by omega]
      · rw [if_neg h2, if_neg (by omega)]
    | false =>
      rw [str_fs e, run_f e, if_pos (by omega)]
      rfl
theorem str_none (a : Abs) (b n t : Nat) : a.stretches b t n none = (if 0 < run (a.dry b) t n then [(t, run (a.dry b) t n)] else []) ++ (if run (a.dry b) t n < n then a.stretches b (t + run (a.dry b) t n + 1) (n - run (a.dry b) t n - 1) none else []) := by
  match n with
  | 0 =>
    unfold Abs.stretches run
    simp
  | n + 1 =>
    cases e : a.dry b t with
    | true =>
      rw [str_tn e, str_some a b n (t + 1) t (by omega), run_t e, if_pos (show 0 < run (a.dry b) (t + 1) n + 1 by omega)]
      rw [show t + 1 + run (a.dry b) (t + 1) n - t = run (a.dry b) (t + 1) n + 1 by omega]
      rw [show t + 1 + run (a.dry b) (t + 1) n = t + (run (a.dry b) (t + 1) n + 1) by omega]
      by_cases h2 : run (a.dry b) (t + 1) n < n
      · rw [if_pos h2, if_pos (show run (a.dry b) (t + 1) n + 1 < n + 1 by omega), show n + 1 - (run (a.dry b) (t + 1) n + 1) - 1 = n - run (a.dry b) (t + 1) n - 1 by omega]
        rfl
      · rw [if_neg h2, if_neg (show ¬ run (a.dry b) (t + 1) n + 1 < n + 1 by omega)]
        rfl
    | false =>
      rw [str_fn e, run_f e, if_neg (by omega), if_pos (by omega)]
      rfl
theorem str_zero (a : Abs) (b t : Nat) : a.stretches b t 0 none = [] := by
  rw [Abs.stretches]
/-- the loop of stretches: what is found so far, and what is still to come -/
theorem str_step (a : Abs) (b t e : Nat) (h : t < e) : a.stretches b t (e - t) none =
    (if 0 < run (a.dry b) t (e - t) then [(t, run (a.dry b) t (e - t))] else []) ++ a.stretches b (t + (run (a.dry b) t (e - t) + 1)) (e - (t + (run (a.dry b) t (e - t) + 1))) none := by
  rw [str_none a b (e - t) t]
  congr 1
  have hl := run_le (a.dry b) (e - t) t
  by_cases h2 : run (a.dry b) t (e - t) < e - t
  · rw [if_pos h2, show t + (run (a.dry b) t (e - t) + 1) = t + run (a.dry b) t (e - t) + 1 by omega, show e - (t + run (a.dry b) t (e - t) + 1) = e - t - run (a.dry b) t (e - t) - 1 by omega]
  · rw [if_neg h2, show e - (t + (run (a.dry b) t (e - t) + 1)) = 0 by omega, str_zero]

/-- stretches are not empty, and lie within the minutes -/
theorem str_pos (a : Abs) (b : Nat) : ∀ (k n t : Nat), n ≤ k → ∀ x ∈ a.stretches b t n none, 1 ≤ x.2 ∧ t ≤ x.1 ∧ x.1 + x.2 ≤ t + n
  | 0, n, t, h, x, hx => by
    have : n = 0 := by omega
    subst this
    rw [str_zero] at hx
    simp at hx
  | k + 1, n, t, h, x, hx => by
    rw [str_none] at hx
    have hl := run_le (a.dry b) n t
    rcases List.mem_append.mp hx with hx | hx
    · split at hx
      · simp at hx
        subst hx
        exact ⟨by omega, by simp, by simpa using hl⟩
      · simp at hx
    · split at hx
      · have := str_pos a b k (n - run (a.dry b) t n - 1) (t + run (a.dry b) t n + 1) (by omega) x hx
        omega
      · simp at hx
theorem str_len (a : Abs) (b : Nat) : ∀ (k n t : Nat), n ≤ k → 2 * (a.stretches b t n none).length ≤ n + 1
  | 0, n, t, h => by
    have : n = 0 := by omega
    subst this
    rw [str_zero]
    simp
  | k + 1, n, t, h => by
    rw [str_none]
    have hl := run_le (a.dry b) n t
    rw [List.length_append]
    by_cases h2 : run (a.dry b) t n < n
    · rw [if_pos h2]
      have := str_len a b k (n - run (a.dry b) t n - 1) (t + run (a.dry b) t n + 1) (by omega)
      by_cases h3 : 0 < run (a.dry b) t n
      · rw [if_pos h3]; simp; omega
      · rw [if_neg h3]; simp; omega
    · rw [if_neg h2]
      by_cases h3 : 0 < run (a.dry b) t n
      · rw [if_pos h3]; simp; omega
      · rw [if_neg h3]; simp

/-! ### longest -/
def pick (o : Option (Nat × Nat)) (x : Nat × Nat) : Option (Nat × Nat) := match o with
  | none => some x
  | some y => if y.2 < x.2 then some x else some y
/-- the loop's two numbers (longest, begins) say the fold -/
def says (o : Option (Nat × Nat)) (t longest begins : Nat) : Prop := match o with
  | none => longest = 0 ∧ begins = t
  | some y => longest = y.2 ∧ begins = y.1 ∧ 1 ≤ y.2
theorem says_step {o : Option (Nat × Nat)} {t l g : Nat} {x : Nat × Nat} (h : says o t l g) (hx : 1 ≤ x.2) : says (pick o x) t (if l < x.2 then x.2 else l) (if l < x.2 then x.1 else g) := by
  match o, h with
  | none, ⟨h1, h2⟩ =>
    subst h1
    rw [if_pos (by omega), if_pos (by omega)]
    exact ⟨rfl, rfl, hx⟩
  | some y, ⟨h1, h2, h3⟩ =>
    subst h1 h2
    unfold pick
    dsimp only
    by_cases hc : y.2 < x.2
    · rw [if_pos hc, if_pos hc, if_pos hc]
      exact ⟨rfl, rfl, hx⟩
    · rw [if_neg hc, if_neg hc, if_neg hc]
      exact ⟨rfl, rfl, h3⟩
/-! ### waves by table -/
/-- how many minutes since the wave's lowest -/
def since (w : Wave) (t : Nat) : Nat := (t + w.each - w.low % w.each) % w.each
/-- what it adds so many minutes since then -/
def addN (h e s : Nat) : Nat := h * (2 * min s (e - s)) / e
theorem adds_addN (w : Wave) (t : Nat) : w.adds t = addN w.high w.each (since w t) := rfl
theorem since_lt (w : Wave) (t : Nat) (h : 2 ≤ w.each) : since w t < w.each := Nat.mod_lt _ (by omega)
theorem since_int (w : Wave) (t : Nat) (h2 : w.low < w.each) : ((t : Int) - w.low) % w.each = ((since w t : Nat) : Int) := by
  unfold since
  rw [Nat.mod_eq_of_lt h2, Int.natCast_emod, Int.natCast_sub (by omega), Int.natCast_add]
  rw [show ((t : Int) + w.each - w.low) = ((t : Int) - w.low) + w.each by omega, Int.add_emod_right]
theorem since_add (w : Wave) (t k : Nat) (h2 : w.low < w.each) : (since w t + k) % w.each = since w (t + k) := by
  unfold since
  rw [Nat.mod_eq_of_lt h2, Nat.mod_add_mod, show t + w.each - w.low + k = t + k + w.each - w.low by omega]
theorem addN_int (h e s : Nat) (hs : s < e) : ((h : Int) * 2 * (if (e : Int) - (s : Int) < (s : Int) then (e : Int) - (s : Int) else (s : Int))) / (e : Int) = ((addN h e s : Nat) : Int) := by
  unfold addN
  rw [Int.natCast_ediv]
  congr 1
  by_cases hc : (e : Int) - (s : Int) < (s : Int)
  · rw [if_pos hc]
    have : min s (e - s) = e - s := by omega
    rw [this]
    push_cast
    rw [Int.natCast_sub (by omega), Int.mul_assoc]
  · rw [if_neg hc]
    have : min s (e - s) = s := by omega
    rw [this]
    push_cast
    rw [Int.mul_assoc]
theorem addN_le (h e s : Nat) (he : 2 ≤ e) : addN h e s ≤ h := by
  unfold addN
  have h1 : 2 * min s (e - s) ≤ e := by omega
  calc h * (2 * min s (e - s)) / e ≤ h * e / e := Nat.div_le_div_right (Nat.mul_le_mul_left _ h1)
    _ = h := Nat.mul_div_cancel _ (by omega)
theorem rep_at {α : Type} (xs : List α) : ∀ (k j : Nat), j < k * xs.length → (List.replicate k xs).flatten[j]? = xs[j % xs.length]?
  | 0, j, h => by omega
  | k + 1, j, h => by
    rw [List.replicate_succ, List.flatten_cons]
    by_cases hj : j < xs.length
    · rw [List.getElem?_append_left hj, Nat.mod_eq_of_lt hj]
    · rw [List.getElem?_append_right (by omega), rep_at xs k (j - xs.length) (by rw [Nat.succ_mul] at h; omega), ← Nat.mod_eq_sub_mod (by omega)]
theorem rep_len {α : Type} (xs : List α) (k : Nat) : (List.replicate k xs).flatten.length = k * xs.length := by
  induction k with
  | zero => simp
  | succ k ih => rw [List.replicate_succ, List.flatten_cons, List.length_append, ih, Nat.succ_mul]; omega

/-! ### the first fit, from the back -/
/-- from place m - d on: the first place from which n hold within m -/
def ffd (p : Nat → Bool) (n m : Nat) : Nat → Option Nat
  | 0 => none
  | d + 1 => if n ≤ run p (m - (d + 1)) (d + 1) then some (m - (d + 1)) else ffd p n m d
theorem ffd_some {p : Nat → Bool} {n m : Nat} : ∀ {d j : Nat}, d ≤ m → ffd p n m d = some j → m - d ≤ j ∧ j < m ∧ n ≤ run p j (m - j) ∧ ∀ i, m - d ≤ i → i < j → run p i (m - i) < n
  | 0, j, _, h => by cases h
  | d + 1, j, hd, h => by
    unfold ffd at h
    split at h
    · rename_i c
      cases h
      exact ⟨Nat.le_refl _, by omega, by rw [show m - (m - (d + 1)) = d + 1 by omega]; exact c, fun i h1 h2 => by omega⟩
    · rename_i c
      obtain ⟨h1, h2, h3, h4⟩ := ffd_some (by omega) h
      refine ⟨by omega, h2, h3, fun i h5 h6 => ?_⟩
      by_cases q : i = m - (d + 1)
      · subst q
        rw [show m - (m - (d + 1)) = d + 1 by omega]
        omega
      · exact h4 i (by omega) h6
theorem ffd_none {p : Nat → Bool} {n m : Nat} : ∀ {d : Nat}, d ≤ m → ffd p n m d = none → ∀ i, m - d ≤ i → i < m → run p i (m - i) < n
  | 0, _, _, i, h1, h2 => by omega
  | d + 1, hd, h, i, h1, h2 => by
    unfold ffd at h
    split at h
    · cases h
    · rename_i c
      by_cases q : i = m - (d + 1)
      · subst q
        rw [show m - (m - (d + 1)) = d + 1 by omega]
        omega
      · exact ffd_none (by omega) h i (by omega) h2
/-- n hold one behind another: asked within n, or within more -/
theorem run_ge {p : Nat → Bool} {s n m : Nat} (h : n ≤ m) : n ≤ run p s m ↔ run p s n = n := by
  constructor
  · intro q
    exact run_of (fun k hk => run_dry p m s k (by omega)) (Nat.le_refl _) (.inl rfl)
  · intro q
    rcases Nat.lt_or_ge (run p s m) n with z | z
    · have h1 := run_stop p m s (by omega)
      have h2 := run_dry p n s (run p s m) (by omega)
      rw [h1] at h2
      cases h2
    · exact z
theorem run_shift {p : Nat → Bool} (t : Nat) : ∀ (n s : Nat), run (fun k => p (t + k)) s n = run p (t + s) n
  | 0, _ => rfl
  | n + 1, s => by
    unfold run
    rw [run_shift t n (s + 1), show t + s + 1 = t + (s + 1) by omega]
/-- what the table of first fits says of fits: found within a span -/
theorem fits_some {a : Abs} {b t n m i j : Nat} (hn : 1 ≤ n) (hm : i + SPAN + n ≤ m) (h : ffd (fun k => a.dry b (t + k)) n m (m - i) = some j) (hj : j ≤ i + SPAN) : a.fits b (t + i) n = some (t + j) := by
  obtain ⟨h1, h2, h3, h4⟩ := ffd_some (by omega) h
  rw [run_ge (by omega), run_shift] at h3
  rw [fits_eq, show t + j = t + i + (j - i) by omega]
  refine firstOf_some (fun k hk => decide_eq_false ?_) (decide_eq_true (by rw [show t + i + (j - i) = t + j by omega]; exact h3)) (by omega)
  have h5 := h4 (i + k) (by omega) (by omega)
  intro q
  have : n ≤ run (fun k => a.dry b (t + k)) (i + k) (m - (i + k)) := (run_ge (by omega)).mpr (by rw [run_shift, show t + (i + k) = t + i + k by omega]; exact q)
  omega
theorem fits_none {a : Abs} {b t n m i : Nat} (hn : 1 ≤ n) (hm : i + SPAN + n ≤ m) (h : ∀ j, ffd (fun k => a.dry b (t + k)) n m (m - i) = some j → i + SPAN < j) : a.fits b (t + i) n = none := by
  rw [fits_eq]
  refine firstOf_none fun k hk => decide_eq_false fun q => ?_
  have h0 : n ≤ run (fun k => a.dry b (t + k)) (i + k) (m - (i + k)) := (run_ge (by omega)).mpr (by rw [run_shift, show t + (i + k) = t + i + k by omega]; exact q)
  cases e : ffd (fun k => a.dry b (t + k)) n m (m - i) with
  | none =>
    have := ffd_none (by omega) e (i + k) (by omega) (by omega)
    omega
  | some j =>
    have h1 := h j e
    obtain ⟨_, _, _, h4⟩ := ffd_some (by omega) e
    have := h4 (i + k) (by omega) (by omega)
    omega
theorem ffd_le {p : Nat → Bool} {n m d j : Nat} (hd : d ≤ m) (h : ffd p n m d = some j) : j + n ≤ m := by
  obtain ⟨h1, h2, h3, h4⟩ := ffd_some hd h
  have := run_le p (m - j) j
  omega
end Dh

end
section
set_option Elab.async false
set_option linter.all false
namespace Dh
open Kv346
/-- a call as it stands in the list: its number, its whole numbers, its rows; and the specification's call -/
inductive Told : Int → List Int → List (List Int) → Kv346.Call → Prop
  | begin_ (b : Nat) : Told 0 [(b : Int)] [] (.begin_ b)
  | wave (e h l : Nat) : Told 1 [(e : Int), (h : Int), (l : Int)] [] (.wave e h l)
  | bed (h : Nat) : Told 2 [(h : Int)] [] (.bed h)
  | raise (b h : Nat) : Told 3 [(b : Int), (h : Int)] [] (.raise b h)
  | minutes (n : Nat) : Told 4 [(n : Int)] [] (.minutes n)
  | work (b n : Nat) : Told 5 [(b : Int), (n : Int)] [] (.work b n)
  | height (t : Nat) : Told 6 [(t : Int)] [] (.height t)
  | dry (b t : Nat) : Told 7 [(b : Int), (t : Int)] [] (.dry b t)
  | next (b t : Nat) : Told 8 [(b : Int), (t : Int)] [] (.next b t)
  | wet (b t : Nat) : Told 9 [(b : Int), (t : Int)] [] (.wet b t)
  | lasts (b t : Nat) : Told 10 [(b : Int), (t : Int)] [] (.lasts b t)
  | fits (b t n : Nat) : Told 11 [(b : Int), (t : Int), (n : Int)] [] (.fits b t n)
  | longest (b t n : Nat) : Told 12 [(b : Int), (t : Int), (n : Int)] [] (.longest b t n)
  | many (b t n : Nat) : Told 13 [(b : Int), (t : Int), (n : Int)] [] (.many b t n)
  | stretches (b t n : Nat) : Told 14 [(b : Int), (t : Int), (n : Int)] [] (.stretches b t n)
  | together (t n : Nat) (l : List Nat) (h : l.length ≤ 29000) : Told 15 [(t : Int), (n : Int)] [l.map Int.ofNat] (.together t n l)
  | highest (t n : Nat) : Told 16 [(t : Int), (n : Int)] [] (.highest t n)
  | lowest (t n : Nat) : Told 17 [(t : Int), (n : Int)] [] (.lowest t n)
  | least (t n : Nat) : Told 18 [(t : Int), (n : Int)] [] (.least t n)
  | through (t : Nat) (l : List Nat) (h : l.length ≤ 29000) : Told 19 [(t : Int)] [l.map Int.ofNat] (.through t l)
  | soonest (t : Nat) (l : List Nat) (h : l.length ≤ 29000) : Told 20 [(t : Int)] [l.map Int.ofNat] (.soonest t l)
  | all (t : Nat) : Told 21 [(t : Int)] [] (.all t)
  | works : Told 22 [] [] .works
  | look (b : Nat) : Told 23 [(b : Int)] [] (.look b)
  | state : Told 24 [] [] .state

theorem nats_ofNat : ∀ (l : List Nat), Kv346Neutral.nats (l.map Int.ofNat) = l
  | [] => rfl
  | a :: l => by
    have := nats_ofNat l
    unfold Kv346Neutral.nats at this ⊢
    rw [List.map_cons, List.map_cons, this]
    rfl
theorem callOf_told {p : Int} {xs : List Int} {rs : List (List Int)} {c : Kv346.Call} (h : Told p xs rs c) : Kv346Neutral.callOf ((p :: xs) :: rs) = some c := by
  cases h <;> first | rfl | (unfold Kv346Neutral.callOf; simp [Kv346Neutral.nat, nats_ofNat])

theorem lift_nats : ∀ (r : List Int), r.all (PyInside.within 0 65535) = true → ∃ l : List Nat, r = l.map Int.ofNat
  | [], _ => ⟨[], rfl⟩
  | x :: r, h => by
    rw [List.all_cons, Bool.and_eq_true] at h
    obtain ⟨l, rfl⟩ := lift_nats r h.2
    have hx : 0 ≤ x := by
      have := h.1
      unfold PyInside.within at this
      rw [Bool.and_eq_true] at this
      exact of_decide_eq_true this.1
    obtain ⟨n, rfl⟩ := Int.eq_ofNat_of_zero_le hx
    exact ⟨n :: l, rfl⟩

theorem lift_each {lo hi : Int} {b : List (Int × Int)} {x : Int} {xs : List Int} (h : PyInside.each ((0, hi) :: b) (x :: xs) = true) : (∃ n : Nat, x = (n : Int)) ∧ PyInside.each b xs = true := by
  unfold PyInside.each at h
  rw [Bool.and_eq_true] at h
  have := h.1
  unfold PyInside.within at this
  rw [Bool.and_eq_true] at this
  exact ⟨Int.eq_ofNat_of_zero_le (of_decide_eq_true this.1), h.2⟩

theorem len0 {α : Type} {l : List α} (h : l.length = 0) : l = [] := List.eq_nil_of_length_eq_zero h
theorem len1 {α : Type} {l : List α} (h : l.length = 1) : ∃ a, l = [a] := match l, h with | [a], _ => ⟨a, rfl⟩
theorem len2 {α : Type} {l : List α} (h : l.length = 2) : ∃ a b, l = [a, b] := match l, h with | [a, b], _ => ⟨a, b, rfl⟩
theorem len3 {α : Type} {l : List α} (h : l.length = 3) : ∃ a b c, l = [a, b, c] := match l, h with | [a, b, c], _ => ⟨a, b, c, rfl⟩

theorem lift1 {p hi : Int} {rb : List (Int × Int × Nat × Nat)} {xs : List Int} {rs : List (List Int)} (hb : PyKv346.bound p = ([(0, hi)], rb)) (hl : xs.length = 1) (h : PyInside.call PyKv346.bound ((p :: xs) :: rs) = true) :
    (∃ a : Nat, xs = [(a : Int)]) ∧ PyInside.lists rb rs = true := by
  unfold PyInside.call at h
  dsimp only at h
  rw [hb] at h
  dsimp only at h
  rw [Bool.and_eq_true] at h
  obtain ⟨a, rfl⟩ := len1 hl
  obtain ⟨⟨n, rfl⟩, _⟩ := lift_each (lo := 0) h.1
  exact ⟨⟨n, rfl⟩, h.2⟩
theorem lift2 {p hi hj : Int} {rb : List (Int × Int × Nat × Nat)} {xs : List Int} {rs : List (List Int)} (hb : PyKv346.bound p = ([(0, hi), (0, hj)], rb)) (hl : xs.length = 2) (h : PyInside.call PyKv346.bound ((p :: xs) :: rs) = true) :
    (∃ a b : Nat, xs = [(a : Int), (b : Int)]) ∧ PyInside.lists rb rs = true := by
  unfold PyInside.call at h
  dsimp only at h
  rw [hb] at h
  dsimp only at h
  rw [Bool.and_eq_true] at h
  obtain ⟨a, b, rfl⟩ := len2 hl
  obtain ⟨⟨n, rfl⟩, h1⟩ := lift_each (lo := 0) h.1
  obtain ⟨⟨m, rfl⟩, _⟩ := lift_each (lo := 0) h1
  exact ⟨⟨n, m, rfl⟩, h.2⟩
theorem lift3 {p hi hj hk : Int} {rb : List (Int × Int × Nat × Nat)} {xs : List Int} {rs : List (List Int)} (hb : PyKv346.bound p = ([(0, hi), (0, hj), (0, hk)], rb)) (hl : xs.length = 3) (h : PyInside.call PyKv346.bound ((p :: xs) :: rs) = true) :
    (∃ a b c : Nat, xs = [(a : Int), (b : Int), (c : Int)]) ∧ PyInside.lists rb rs = true := by
  unfold PyInside.call at h
  dsimp only at h
  rw [hb] at h
  dsimp only at h
  rw [Bool.and_eq_true] at h
  obtain ⟨a, b, c, rfl⟩ := len3 hl
  obtain ⟨⟨n, rfl⟩, h1⟩ := lift_each (lo := 0) h.1
  obtain ⟨⟨m, rfl⟩, h2⟩ := lift_each (lo := 0) h1
  obtain ⟨⟨k, rfl⟩, _⟩ := lift_each (lo := 0) h2
  exact ⟨⟨n, m, k, rfl⟩, h.2⟩
theorem lift_row {rs : List (List Int)} (hl : rs.length = 1) (h : PyInside.lists [(0, 65535, 0, 29000)] rs = true) : ∃ l : List Nat, rs = [l.map Int.ofNat] ∧ l.length ≤ 29000 := by
  obtain ⟨r, rfl⟩ := len1 hl
  unfold PyInside.lists at h
  rw [Bool.and_eq_true, Bool.and_eq_true, Bool.and_eq_true] at h
  obtain ⟨l, rfl⟩ := lift_nats r h.1.2
  have := of_decide_eq_true h.1.1.2
  rw [List.length_map] at this
  exact ⟨l, rfl, this⟩

theorem told_of {p : Int} {n k : Nat} {xs : List Int} {rs : List (List Int)} (hs : PyKv346.shape p = some (n, k)) (hx : xs.length = n) (hr : rs.length = k) (h : PyInside.call PyKv346.bound ((p :: xs) :: rs) = true) : ∃ c, Told p xs rs c := by
  unfold PyKv346.shape at hs
  by_cases e : p = 0
  · subst e; cases hs; obtain ⟨⟨a, rfl⟩, _⟩ := lift1 rfl hx h; cases len0 hr; exact ⟨_, .begin_ a⟩
  rw [if_neg e] at hs; clear e
  by_cases e : p = 1
  · subst e; cases hs; obtain ⟨⟨a, b, c, rfl⟩, _⟩ := lift3 rfl hx h; cases len0 hr; exact ⟨_, .wave a b c⟩
  rw [if_neg e] at hs; clear e
  by_cases e : p = 2
  · subst e; cases hs; obtain ⟨⟨a, rfl⟩, _⟩ := lift1 rfl hx h; cases len0 hr; exact ⟨_, .bed a⟩
  rw [if_neg e] at hs; clear e
  by_cases e : p = 3
  · subst e; cases hs; obtain ⟨⟨a, b, rfl⟩, _⟩ := lift2 rfl hx h; cases len0 hr; exact ⟨_, .raise a b⟩
  rw [if_neg e] at hs; clear e
  by_cases e : p = 4
  · subst e; cases hs; obtain ⟨⟨a, rfl⟩, _⟩ := lift1 rfl hx h; cases len0 hr; exact ⟨_, .minutes a⟩
  rw [if_neg e] at hs; clear e
  by_cases e : p = 5
  · subst e; cases hs; obtain ⟨⟨a, b, rfl⟩, _⟩ := lift2 rfl hx h; cases len0 hr; exact ⟨_, .work a b⟩
  rw [if_neg e] at hs; clear e
  by_cases e : p = 6
  · subst e; cases hs; obtain ⟨⟨a, rfl⟩, _⟩ := lift1 rfl hx h; cases len0 hr; exact ⟨_, .height a⟩
  rw [if_neg e] at hs; clear e
  by_cases e : p = 7
  · subst e; cases hs; obtain ⟨⟨a, b, rfl⟩, _⟩ := lift2 rfl hx h; cases len0 hr; exact ⟨_, .dry a b⟩
  rw [if_neg e] at hs; clear e
  by_cases e : p = 8
  · subst e; cases hs; obtain ⟨⟨a, b, rfl⟩, _⟩ := lift2 rfl hx h; cases len0 hr; exact ⟨_, .next a b⟩
  rw [if_neg e] at hs; clear e
  by_cases e : p = 9
  · subst e; cases hs; obtain ⟨⟨a, b, rfl⟩, _⟩ := lift2 rfl hx h; cases len0 hr; exact ⟨_, .wet a b⟩
  rw [if_neg e] at hs; clear e
  by_cases e : p = 10
  · subst e; cases hs; obtain ⟨⟨a, b, rfl⟩, _⟩ := lift2 rfl hx h; cases len0 hr; exact ⟨_, .lasts a b⟩
  rw [if_neg e] at hs; clear e
  by_cases e : p = 11
  · subst e; cases hs; obtain ⟨⟨a, b, c, rfl⟩, _⟩ := lift3 rfl hx h; cases len0 hr; exact ⟨_, .fits a b c⟩
  rw [if_neg e] at hs; clear e
  by_cases e : p = 12
  · subst e; cases hs; obtain ⟨⟨a, b, c, rfl⟩, _⟩ := lift3 rfl hx h; cases len0 hr; exact ⟨_, .longest a b c⟩
  rw [if_neg e] at hs; clear e
  by_cases e : p = 13
  · subst e; cases hs; obtain ⟨⟨a, b, c, rfl⟩, _⟩ := lift3 rfl hx h; cases len0 hr; exact ⟨_, .many a b c⟩
  rw [if_neg e] at hs; clear e
  by_cases e : p = 14
  · subst e; cases hs; obtain ⟨⟨a, b, c, rfl⟩, _⟩ := lift3 rfl hx h; cases len0 hr; exact ⟨_, .stretches a b c⟩
  rw [if_neg e] at hs; clear e
  by_cases e : p = 15
  · subst e; cases hs; obtain ⟨⟨a, b, rfl⟩, h'⟩ := lift2 rfl hx h; obtain ⟨l, rfl, hl⟩ := lift_row hr h'; exact ⟨_, .together a b l hl⟩
  rw [if_neg e] at hs; clear e
  by_cases e : p = 16
  · subst e; cases hs; obtain ⟨⟨a, b, rfl⟩, _⟩ := lift2 rfl hx h; cases len0 hr; exact ⟨_, .highest a b⟩
  rw [if_neg e] at hs; clear e
  by_cases e : p = 17
  · subst e; cases hs; obtain ⟨⟨a, b, rfl⟩, _⟩ := lift2 rfl hx h; cases len0 hr; exact ⟨_, .lowest a b⟩
  rw [if_neg e] at hs; clear e
  by_cases e : p = 18
  · subst e; cases hs; obtain ⟨⟨a, b, rfl⟩, _⟩ := lift2 rfl hx h; cases len0 hr; exact ⟨_, .least a b⟩
  rw [if_neg e] at hs; clear e
  by_cases e : p = 19
  · subst e; cases hs; obtain ⟨⟨a, rfl⟩, h'⟩ := lift1 rfl hx h; obtain ⟨l, rfl, hl⟩ := lift_row hr h'; exact ⟨_, .through a l hl⟩
  rw [if_neg e] at hs; clear e
  by_cases e : p = 20
  · subst e; cases hs; obtain ⟨⟨a, rfl⟩, h'⟩ := lift1 rfl hx h; obtain ⟨l, rfl, hl⟩ := lift_row hr h'; exact ⟨_, .soonest a l hl⟩
  rw [if_neg e] at hs; clear e
  by_cases e : p = 21
  · subst e; cases hs; obtain ⟨⟨a, rfl⟩, _⟩ := lift1 rfl hx h; cases len0 hr; exact ⟨_, .all a⟩
  rw [if_neg e] at hs; clear e
  by_cases e : p = 22
  · subst e; cases hs; cases len0 hx; cases len0 hr; exact ⟨_, .works⟩
  rw [if_neg e] at hs; clear e
  by_cases e : p = 23
  · subst e; cases hs; obtain ⟨⟨a, rfl⟩, _⟩ := lift1 rfl hx h; cases len0 hr; exact ⟨_, .look a⟩
  rw [if_neg e] at hs; clear e
  by_cases e : p = 24
  · subst e; cases hs; cases len0 hx; cases len0 hr; exact ⟨_, .state⟩
  rw [if_neg e] at hs
  cases hs

/-! ### the calls one behind another -/
theorem whole_told {p : Int} {xs : List Int} {rs : List (List Int)} {c : Kv346.Call} (h : Told p xs rs c) : PyKv346.whole ((p :: xs) :: rs) = (p :: xs) :: rs := by
  cases h <;> rfl
/-- how many numbers a call takes of the list -/
def takes (p : Int) (xs : List Int) (rs : List (List Int)) : Nat := 1 + xs.length + (rs.map fun r => 1 + r.length).sum
theorem rows_len {shape : Nat} : ∀ {k : Nat} {r : List Int} {xs : List (List Int)} {t : List Int}, PyFlat.rows k r = some (xs, t) → xs.length = k
  | 0, r, xs, t, h => by
    unfold PyFlat.rows at h
    cases h
    rfl
  | k + 1, r, xs, t, h => by
    unfold PyFlat.rows at h
    split at h
    · cases h
    · split at h
      · cases h
      · rename_i q
        cases h
        rw [List.length_cons, rows_len (shape := shape) q]
theorem rows_zero {r : List Int} {xs : List (List Int)} {t : List Int} (h : PyFlat.rows 0 r = some (xs, t)) : xs = [] ∧ t = r := by
  unfold PyFlat.rows at h
  cases h
  exact ⟨rfl, rfl⟩
theorem rows_one {r : List Int} {xs : List (List Int)} {t : List Int} (h : PyFlat.rows 1 r = some (xs, t)) : ∃ (m : Nat) (r' : List Int), r = (m : Int) :: r' ∧ m ≤ r'.length ∧ xs = [r'.take m] ∧ t = r'.drop m := by
  unfold PyFlat.rows at h
  split at h
  · cases h
  · rename_i x s hr
    unfold PyFlat.rows at h
    cases h
    unfold PyFlat.row at hr
    split at hr
    · cases hr
    · rename_i n r'
      split at hr
      · rename_i hc
        cases hr
        obtain ⟨m, rfl⟩ := Int.eq_ofNat_of_zero_le hc.1
        exact ⟨m, r', rfl, hc.2, rfl, rfl⟩
      · cases hr
theorem calls_nil {sh : Int → Option (Nat × Nat)} {f : Nat} {cs : List (List (List Int))} (h : PyFlat.calls sh f [] = some cs) : cs = [] := by
  unfold PyFlat.calls at h
  cases h
  rfl
theorem calls_cons {sh : Int → Option (Nat × Nat)} {f : Nat} {p : Int} {r : List Int} {cs : List (List (List Int))} (h : PyFlat.calls sh f (p :: r) = some cs) :
    ∃ (n k : Nat) (xs : List (List Int)) (t : List Int) (f' : Nat) (cs' : List (List (List Int))), sh p = some (n, k) ∧ n ≤ r.length ∧ PyFlat.rows k (r.drop n) = some (xs, t) ∧ PyFlat.calls sh f' t = some cs' ∧ cs = ((p :: r.take n) :: xs) :: cs' := by
  cases f with
  | zero => unfold PyFlat.calls at h; cases h
  | succ f =>
    unfold PyFlat.calls at h
    split at h
    · cases h
    · rename_i c t hc
      split at h
      · cases h
      · rename_i cs' hcs
        cases h
        unfold PyFlat.call at hc
        dsimp only at hc
        cases e1 : sh p with
        | none => rw [e1] at hc; cases hc
        | some nk =>
          obtain ⟨n, k⟩ := nk
          rw [e1] at hc
          dsimp only at hc
          by_cases hn : r.length < n
          · rw [if_pos hn] at hc; cases hc
          · rw [if_neg hn] at hc
            cases e2 : PyFlat.rows k (r.drop n) with
            | none => rw [e2] at hc; cases hc
            | some q =>
              obtain ⟨xs, t'⟩ := q
              rw [e2] at hc
              cases hc
              exact ⟨n, k, xs, t, f, cs', rfl, by omega, e2, hcs, rfl⟩
theorem told_rows {p : Int} {xs : List Int} {rs : List (List Int)} {c : Kv346.Call} (h : Told p xs rs c) : rs.length = 0 ∨ rs.length = 1 := by
  cases h <;> simp
/-- THE TURN: one call taken off the list -/
theorem turn {l : List Int} {place f : Nat} {cs : List (List (List Int))} (hp : place < l.length) (h : PyFlat.calls PyKv346.shape f (l.drop place) = some cs) (hb : PyInside.calls PyKv346.bound cs = true) :
    ∃ (p : Int) (xs : List Int) (rs : List (List Int)) (c : Kv346.Call) (cs' : List (List (List Int))) (n k f' : Nat), Told p xs rs c ∧ l[place]? = some p ∧ PyKv346.shape p = some (n, k) ∧ xs.length = n ∧ rs.length = k ∧ cs = ((p :: xs) :: rs) :: cs' ∧
      (l.drop (place + 1)).take n = xs ∧ place + 1 + n ≤ l.length ∧ PyInside.calls PyKv346.bound cs' = true ∧
      ((k = 0 ∧ rs = [] ∧ PyFlat.calls PyKv346.shape f' (l.drop (place + 1 + n)) = some cs') ∨
       ∃ (m : Nat), k = 1 ∧ l[place + 1 + n]? = some (m : Int) ∧ place + 1 + n + 1 + m ≤ l.length ∧ rs = [(l.drop (place + 1 + n + 1)).take m] ∧ PyFlat.calls PyKv346.shape f' (l.drop (place + 1 + n + 1 + m)) = some cs') := by
  have e : l.drop place = l[place] :: l.drop (place + 1) := List.drop_eq_getElem_cons hp
  rw [e] at h
  obtain ⟨n, k, xs, t, f', cs', hs, hn, hr, hc, rfl⟩ := calls_cons h
  rw [List.length_drop] at hn
  unfold PyInside.calls at hb
  rw [List.all_cons, Bool.and_eq_true] at hb
  have hk := rows_len (shape := 0) hr
  have hxl : ((l.drop (place + 1)).take n).length = n := by rw [List.length_take, List.length_drop]; omega
  obtain ⟨c, hT⟩ := told_of hs hxl hk hb.1
  refine ⟨l[place], _, xs, c, cs', n, k, f', hT, List.getElem?_eq_getElem hp, hs, hxl, hk, rfl, rfl, by omega, hb.2, ?_⟩
  have hk01 : k = 0 ∨ k = 1 := by
    rw [← hk]
    exact told_rows hT
  rw [List.drop_drop] at hr
  rcases hk01 with rfl | rfl
  · obtain ⟨rfl, rfl⟩ := rows_zero hr
    exact .inl ⟨rfl, rfl, hc⟩
  · obtain ⟨m, r', er, hm, rfl, rfl⟩ := rows_one hr
    have hlt : place + 1 + n < l.length := by
      have : (l.drop (place + 1 + n)).length ≠ 0 := by rw [er]; simp
      rw [List.length_drop] at this
      omega
    have e2 : l.drop (place + 1 + n) = l[place + 1 + n] :: l.drop (place + 1 + n + 1) := List.drop_eq_getElem_cons hlt
    rw [e2] at er
    injection er with e3 e4
    subst e4
    rw [List.length_drop] at hm
    refine .inr ⟨m, rfl, by rw [List.getElem?_eq_getElem hlt, e3], by omega, rfl, ?_⟩
    rw [List.drop_drop] at hc
    exact hc

theorem step_told {p : Int} {xs : List Int} {rs : List (List Int)} {c : Kv346.Call} (h : Told p xs rs c) (s : State) : Kv346Neutral.step s ((p :: xs) :: rs) = ((Kv346.act s c).1, Kv346Neutral.row (Kv346.act s c).2) := by
  unfold Kv346Neutral.step
  rw [callOf_told h]
/-- what is still to be told -/
def rest (s : State) (cs : List (List (List Int))) : List Int := PyFlat.told (PyFlat.played Kv346Neutral.step s (cs.map PyKv346.whole))
theorem rest_nil (s : State) : rest s [] = [] := rfl
theorem rest_cons {p : Int} {xs : List Int} {rs : List (List Int)} {c : Kv346.Call} (h : Told p xs rs c) (s : State) (cs : List (List (List Int))) :
    rest s (((p :: xs) :: rs) :: cs) = ((Kv346Neutral.row (Kv346.act s c).2).length : Int) :: (Kv346Neutral.row (Kv346.act s c).2 ++ rest (Kv346.act s c).1 cs) := by
  unfold rest PyFlat.told
  rw [List.map_cons, whole_told h, PyFlat.played, step_told h, List.flatMap_cons]
  rfl
/-- what is asked, at the loop's start -/
theorem asked_start {l : List Int} (h : PyKv346.answers_asked l = true) : ∃ raw, PyFlat.calls PyKv346.shape l.length (l.drop 0) = some raw ∧ PyInside.calls PyKv346.bound raw = true ∧ PyKv346.answers l = rest none raw ∧ (PyKv346.answers l).length ≤ 10000000 := by
  unfold PyKv346.answers_asked at h
  split at h
  · cases h
  · rename_i raw hr
    rw [Bool.and_eq_true, Bool.and_eq_true, Bool.and_eq_true, Bool.and_eq_true] at h
    refine ⟨raw, hr, h.1.1.2, ?_, of_decide_eq_true h.2⟩
    unfold PyKv346.answers PyKv346.calls
    rw [hr]
    rfl
end Dh

end
section
set_option Elab.async false
set_option linter.all false
namespace Dh
open Kv346
/-! ### what each call answers -/
def outOf (a : Abs) (c : Kv346.Call) : List Int := Kv346Neutral.row (a.does c).2
def stOf (a : Abs) (c : Kv346.Call) : Abs := (a.does c).1
theorem okT_t {t : Nat} (h : t ≤ 100000) : okT t = true := decide_eq_true (p := t ≤ LAST) h
theorem okT_f {t : Nat} (h : ¬ t ≤ 100000) : okT t = false := decide_eq_false (p := t ≤ LAST) h
theorem okN_t {n : Nat} (h1 : 1 ≤ n) (h2 : n ≤ 1000) : okN n = true := by unfold okN; rw [decide_eq_true h1, decide_eq_true h2]; rfl
theorem okN_f {n : Nat} (h : ¬ (1 ≤ n ∧ n ≤ 1000)) : okN n = false := by
  unfold okN
  cases e : (decide (1 ≤ n) && decide (n ≤ 1000)) with
  | false => rfl
  | true =>
    rw [Bool.and_eq_true] at e
    exact absurd ⟨of_decide_eq_true e.1, of_decide_eq_true e.2⟩ h
theorem has_t {a : Abs} {b : Nat} (h : b < a.beds.length) : a.has b = true := decide_eq_true h
theorem has_f {a : Abs} {b : Nat} (h : ¬ b < a.beds.length) : a.has b = false := decide_eq_false h
section
variable {a : Abs} {b t n h e l : Nat}
theorem tf : ¬ (true = false) := by decide
/-! no such bed -/
theorem d_no_bed {c : Kv346.Call} {b : Nat} (hb : ¬ b < a.beds.length) (hc : (∃ h, c = .raise b h) ∨ (∃ n, c = .work b n) ∨ (∃ t, c = .dry b t) ∨ (∃ t, c = .next b t) ∨ (∃ t, c = .wet b t) ∨ (∃ t, c = .lasts b t) ∨ (∃ t n, c = .fits b t n) ∨ (∃ t n, c = .longest b t n) ∨ (∃ t n, c = .many b t n) ∨ (∃ t n, c = .stretches b t n) ∨ c = .look b) :
    a.does c = (a, say (-2)) := by
  have q := has_f hb
  rcases hc with ⟨_, rfl⟩ | ⟨_, rfl⟩ | ⟨_, rfl⟩ | ⟨_, rfl⟩ | ⟨_, rfl⟩ | ⟨_, rfl⟩ | ⟨_, _, rfl⟩ | ⟨_, _, rfl⟩ | ⟨_, _, rfl⟩ | ⟨_, _, rfl⟩ | rfl <;> (unfold Abs.does; dsimp only; rw [if_pos q])
theorem out_say {c : Kv346.Call} {a' : Abs} {z : Int} (q : a.does c = (a', say z)) : outOf a c = [z] := by unfold outOf; rw [q]; rfl
theorem out_ans {c : Kv346.Call} {a' : Abs} {z : Int} {ns : List Nat} (q : a.does c = (a', ⟨z, ns⟩)) : outOf a c = z :: ns.map Int.ofNat := by unfold outOf; rw [q]; rfl
/-! changes -/
theorem d_begin_bad (k : ¬ b ≤ 10000) : a.does (.begin_ b) = (a, say (-22)) := by unfold Abs.does; dsimp only; rw [if_pos (by omega)]
theorem d_begin (k : b ≤ 10000) : a.does (.begin_ b) = (begun b, say 0) := by unfold Abs.does; dsimp only; rw [if_neg (by omega)]
theorem d_wave_bad (k : ¬ (2 ≤ e ∧ e ≤ 2000 ∧ 1 ≤ h ∧ h ≤ 1000 ∧ l < e)) : a.does (.wave e h l) = (a, say (-22)) := by unfold Abs.does; dsimp only; rw [if_pos (by omega)]
theorem d_wave_many (k : 2 ≤ e ∧ e ≤ 2000 ∧ 1 ≤ h ∧ h ≤ 1000 ∧ l < e) (m : 4 ≤ a.waves.length) : a.does (.wave e h l) = (a, say (-28)) := by unfold Abs.does; dsimp only; rw [if_neg (by omega), if_pos m]
theorem d_wave (k : 2 ≤ e ∧ e ≤ 2000 ∧ 1 ≤ h ∧ h ≤ 1000 ∧ l < e) (m : ¬ 4 ≤ a.waves.length) : a.does (.wave e h l) = ({ a with waves := a.waves ++ [⟨e, h, l⟩] }, say (a.waves.length : Nat)) := by unfold Abs.does; dsimp only; rw [if_neg (by omega), if_neg m]
theorem d_bed_bad (k : ¬ h ≤ 20000) : a.does (.bed h) = (a, say (-22)) := by unfold Abs.does; dsimp only; rw [if_pos (by omega)]
theorem d_bed_many (k : h ≤ 20000) (m : 6 ≤ a.beds.length) : a.does (.bed h) = (a, say (-28)) := by unfold Abs.does; dsimp only; rw [if_neg (by omega), if_pos m]
theorem d_bed (k : h ≤ 20000) (m : ¬ 6 ≤ a.beds.length) : a.does (.bed h) = ({ a with beds := a.beds ++ [h], done := a.done ++ [0] }, say (a.beds.length : Nat)) := by unfold Abs.does; dsimp only; rw [if_neg (by omega), if_neg m]
theorem d_raise_bad (hb : b < a.beds.length) (k : ¬ h ≤ 20000) : a.does (.raise b h) = (a, say (-22)) := by unfold Abs.does; dsimp only; rw [has_t hb, if_neg tf, if_pos (by omega)]
theorem d_raise (hb : b < a.beds.length) (k : h ≤ 20000) : a.does (.raise b h) = ({ a with beds := a.beds.set b h }, say (a.bed b : Nat)) := by unfold Abs.does; dsimp only; rw [has_t hb, if_neg tf, if_neg (by omega)]
theorem d_minutes_bad (k : ¬ (1 ≤ n ∧ n ≤ 1000)) : a.does (.minutes n) = (a, say (-22)) := by unfold Abs.does; dsimp only; rw [if_pos (okN_f k)]
theorem d_minutes_late (k : 1 ≤ n ∧ n ≤ 1000) (m : 100000 < a.now + n) : a.does (.minutes n) = (a, say (-75)) := by unfold Abs.does; dsimp only; rw [okN_t k.1 k.2, if_neg tf, if_pos (show LAST < a.now + n from m)]
theorem d_minutes (k : 1 ≤ n ∧ n ≤ 1000) (m : ¬ 100000 < a.now + n) : a.does (.minutes n) = ({ a with now := a.now + n }, ⟨(a.now + n : Nat), [a.height (a.now + n)]⟩) := by unfold Abs.does; dsimp only; rw [okN_t k.1 k.2, if_neg tf, if_neg (show ¬ LAST < a.now + n from m)]
theorem d_work_bad (hb : b < a.beds.length) (k : ¬ (1 ≤ n ∧ n ≤ 1000)) : a.does (.work b n) = (a, say (-22)) := by unfold Abs.does; dsimp only; rw [has_t hb, if_neg tf, if_pos (okN_f k)]
theorem d_work_late (hb : b < a.beds.length) (k : 1 ≤ n ∧ n ≤ 1000) (m : 100000 < a.now + n) : a.does (.work b n) = (a, say (-75)) := by unfold Abs.does; dsimp only; rw [has_t hb, if_neg tf, okN_t k.1 k.2, if_neg tf, if_pos (show LAST < a.now + n from m)]
theorem d_work_wet (hb : b < a.beds.length) (k : 1 ≤ n ∧ n ≤ 1000) (m : ¬ 100000 < a.now + n) (r : run (a.dry b) a.now n < n) : a.does (.work b n) = (a, say (-16)) := by
  unfold Abs.does; dsimp only; rw [has_t hb, if_neg tf, okN_t k.1 k.2, if_neg tf, if_neg (show ¬ LAST < a.now + n from m), run_any (p := a.dry b), if_pos (decide_eq_true r)]
theorem d_work (hb : b < a.beds.length) (k : 1 ≤ n ∧ n ≤ 1000) (m : ¬ 100000 < a.now + n) (r : ¬ run (a.dry b) a.now n < n) : a.does (.work b n) = ({ a with now := a.now + n, done := a.done.modify b fun x => x + n }, say (a.now + n : Nat)) := by
  unfold Abs.does; dsimp only; rw [has_t hb, if_neg tf, okN_t k.1 k.2, if_neg tf, if_neg (show ¬ LAST < a.now + n from m), run_any (p := a.dry b), if_neg (by rw [decide_eq_false r]; decide)]
/-! looks -/
theorem d_height_bad (k : ¬ t ≤ 100000) : a.does (.height t) = (a, say (-22)) := by unfold Abs.does; dsimp only; rw [if_pos (okT_f k)]
theorem d_height (k : t ≤ 100000) : a.does (.height t) = (a, say (a.height t : Nat)) := by unfold Abs.does; dsimp only; rw [okT_t k, if_neg tf]
theorem d_dry_bad (hb : b < a.beds.length) (k : ¬ t ≤ 100000) : a.does (.dry b t) = (a, say (-22)) := by unfold Abs.does; dsimp only; rw [has_t hb, if_neg tf, if_pos (okT_f k)]
theorem d_dry_t (hb : b < a.beds.length) (k : t ≤ 100000) (r : a.dry b t = true) : a.does (.dry b t) = (a, say 1) := by unfold Abs.does; dsimp only; rw [has_t hb, if_neg tf, okT_t k, if_neg tf, r]; rfl
theorem d_dry_f (hb : b < a.beds.length) (k : t ≤ 100000) (r : a.dry b t = false) : a.does (.dry b t) = (a, say 0) := by unfold Abs.does; dsimp only; rw [has_t hb, if_neg tf, okT_t k, if_neg tf, r]; rfl
theorem d_next_bad (hb : b < a.beds.length) (k : ¬ t ≤ 100000) : a.does (.next b t) = (a, say (-22)) := by unfold Abs.does; dsimp only; rw [has_t hb, if_neg tf, if_pos (okT_f k)]
theorem d_next_none (hb : b < a.beds.length) (k : t ≤ 100000) (r : firstOf t (a.dry b) = none) : a.does (.next b t) = (a, say (-33)) := by unfold Abs.does; dsimp only; rw [has_t hb, if_neg tf, okT_t k, if_neg tf, r]
theorem d_next {s : Nat} (hb : b < a.beds.length) (k : t ≤ 100000) (r : firstOf t (a.dry b) = some s) : a.does (.next b t) = (a, ⟨(s : Nat), [run (a.dry b) s SPAN]⟩) := by unfold Abs.does; dsimp only; rw [has_t hb, if_neg tf, okT_t k, if_neg tf, r]; dsimp only; rw [lasts_run]
theorem d_wet_bad (hb : b < a.beds.length) (k : ¬ t ≤ 100000) : a.does (.wet b t) = (a, say (-22)) := by unfold Abs.does; dsimp only; rw [has_t hb, if_neg tf, if_pos (okT_f k)]
theorem d_wet_none (hb : b < a.beds.length) (k : t ≤ 100000) (r : firstOf t (fun s => !(a.dry b s)) = none) : a.does (.wet b t) = (a, say (-33)) := by unfold Abs.does; dsimp only; rw [has_t hb, if_neg tf, okT_t k, if_neg tf, r]
theorem d_wet {s : Nat} (hb : b < a.beds.length) (k : t ≤ 100000) (r : firstOf t (fun s => !(a.dry b s)) = some s) : a.does (.wet b t) = (a, say (s : Nat)) := by unfold Abs.does; dsimp only; rw [has_t hb, if_neg tf, okT_t k, if_neg tf, r]
theorem d_lasts_bad (hb : b < a.beds.length) (k : ¬ t ≤ 100000) : a.does (.lasts b t) = (a, say (-22)) := by unfold Abs.does; dsimp only; rw [has_t hb, if_neg tf, if_pos (okT_f k)]
theorem d_lasts (hb : b < a.beds.length) (k : t ≤ 100000) : a.does (.lasts b t) = (a, say (run (a.dry b) t SPAN : Nat)) := by unfold Abs.does; dsimp only; rw [has_t hb, if_neg tf, okT_t k, if_neg tf, lasts_run]
theorem bad3 {m : Nat} (k : ¬ (t ≤ 100000 ∧ 1 ≤ n ∧ n ≤ m)) : okT t = false ∨ n = 0 ∨ m < n := by
  by_cases q : t ≤ 100000
  · exact .inr (by omega)
  · exact .inl (okT_f q)
theorem good3 {m : Nat} (k : t ≤ 100000 ∧ 1 ≤ n ∧ n ≤ m) : ¬ (okT t = false ∨ n = 0 ∨ m < n) := by
  rw [okT_t k.1]
  rintro (q | q)
  · cases q
  · omega
theorem bad2 (k : ¬ (t ≤ 100000 ∧ 1 ≤ n ∧ n ≤ 1000)) : okT t = false ∨ okN n = false := by
  by_cases q : t ≤ 100000
  · exact .inr (okN_f (by omega))
  · exact .inl (okT_f q)
theorem good2 (k : t ≤ 100000 ∧ 1 ≤ n ∧ n ≤ 1000) : ¬ (okT t = false ∨ okN n = false) := by
  rw [okT_t k.1, okN_t k.2.1 k.2.2]
  rintro (q | q) <;> cases q
theorem d_fits_bad (hb : b < a.beds.length) (k : ¬ (t ≤ 100000 ∧ 1 ≤ n ∧ n ≤ 300)) : a.does (.fits b t n) = (a, say (-22)) := by unfold Abs.does; dsimp only; rw [has_t hb, if_neg tf, if_pos (bad3 k)]
theorem d_fits_none (hb : b < a.beds.length) (k : t ≤ 100000 ∧ 1 ≤ n ∧ n ≤ 300) (r : a.fits b t n = none) : a.does (.fits b t n) = (a, say (-33)) := by unfold Abs.does; dsimp only; rw [has_t hb, if_neg tf, if_neg (good3 k), r]
theorem d_fits {s : Nat} (hb : b < a.beds.length) (k : t ≤ 100000 ∧ 1 ≤ n ∧ n ≤ 300) (r : a.fits b t n = some s) : a.does (.fits b t n) = (a, say (s : Nat)) := by unfold Abs.does; dsimp only; rw [has_t hb, if_neg tf, if_neg (good3 k), r]
theorem d_longest_bad (hb : b < a.beds.length) (k : ¬ (t ≤ 100000 ∧ 1 ≤ n ∧ n ≤ 1000)) : a.does (.longest b t n) = (a, say (-22)) := by unfold Abs.does; dsimp only; rw [has_t hb, if_neg tf, if_pos (bad2 k)]
theorem longest_eq (hb : b < a.beds.length) (k : t ≤ 100000 ∧ 1 ≤ n ∧ n ≤ 1000) : a.does (.longest b t n) = (match (a.stretches b t n none).foldl pick none with
    | none => (a, say (-33))
    | some x => (a, ⟨(x.2 : Nat), [x.1]⟩)) := by
  unfold Abs.does
  dsimp only
  rw [has_t hb, if_neg tf, if_neg (good2 k)]
  have e : (fun (o : Option (Nat × Nat)) (x : Nat × Nat) => (match o with
      | none => some x
      | some y => if y.2 < x.2 then some x else some y)) = pick := by
    funext o x
    cases o <;> rfl
  show (match List.foldl (fun (o : Option (Nat × Nat)) (x : Nat × Nat) => (match o with
      | none => some x
      | some y => if y.2 < x.2 then some x else some y)) none (a.stretches b t n none) with
    | none => (a, say (-33))
    | some x => (a, (⟨(x.2 : Nat), [x.1]⟩ : Ans))) = _
  rw [e]
theorem d_longest_none (hb : b < a.beds.length) (k : t ≤ 100000 ∧ 1 ≤ n ∧ n ≤ 1000) (r : (a.stretches b t n none).foldl pick none = none) : a.does (.longest b t n) = (a, say (-33)) := by rw [longest_eq hb k, r]
theorem d_longest {x : Nat × Nat} (hb : b < a.beds.length) (k : t ≤ 100000 ∧ 1 ≤ n ∧ n ≤ 1000) (r : (a.stretches b t n none).foldl pick none = some x) : a.does (.longest b t n) = (a, ⟨(x.2 : Nat), [x.1]⟩) := by rw [longest_eq hb k, r]
theorem d_many_bad (hb : b < a.beds.length) (k : ¬ (t ≤ 100000 ∧ 1 ≤ n ∧ n ≤ 1000)) : a.does (.many b t n) = (a, say (-22)) := by unfold Abs.does; dsimp only; rw [has_t hb, if_neg tf, if_pos (bad2 k)]
theorem d_many (hb : b < a.beds.length) (k : t ≤ 100000 ∧ 1 ≤ n ∧ n ≤ 1000) : a.does (.many b t n) = (a, say (a.minutesOf t n (a.dry b) : Nat)) := by unfold Abs.does; dsimp only; rw [has_t hb, if_neg tf, if_neg (good2 k)]
theorem d_stretches_bad (hb : b < a.beds.length) (k : ¬ (t ≤ 100000 ∧ 1 ≤ n ∧ n ≤ 1000)) : a.does (.stretches b t n) = (a, say (-22)) := by unfold Abs.does; dsimp only; rw [has_t hb, if_neg tf, if_pos (bad2 k)]
theorem d_stretches (hb : b < a.beds.length) (k : t ≤ 100000 ∧ 1 ≤ n ∧ n ≤ 1000) : a.does (.stretches b t n) = (a, ⟨((a.stretches b t n none).length : Nat), (a.stretches b t n none).flatMap fun x => [x.1, x.2]⟩) := by unfold Abs.does; dsimp only; rw [has_t hb, if_neg tf, if_neg (good2 k)]
/-! minutes counted one by one -/
theorem min_zero {p : Nat → Bool} : a.minutesOf t 0 p = 0 := rfl
theorem min_succ {p : Nat → Bool} : a.minutesOf t (n + 1) p = a.minutesOf t n p + (if p (t + n) then 1 else 0) := by
  unfold Abs.minutesOf
  rw [List.range_succ, List.filter_append, List.length_append, List.filter_cons, List.filter_nil]
  cases p (t + n) <;> rfl
theorem min_le {p : Nat → Bool} : a.minutesOf t n p ≤ n := by
  unfold Abs.minutesOf
  have := List.length_filter_le (fun k => p (t + k)) (List.range n)
  rw [List.length_range] at this
  exact this
/-! together -/
theorem badT {l : List Nat} (k : ¬ (t ≤ 100000 ∧ 1 ≤ n ∧ n ≤ 1000 ∧ l.length ≤ 6 ∧ l.Nodup)) : okT t = false ∨ okN n = false ∨ 6 < l.length ∨ l.Nodup = false := by
  by_cases q : t ≤ 100000 ∧ 1 ≤ n ∧ n ≤ 1000
  · by_cases m : 6 < l.length
    · exact .inr (.inr (.inl m))
    · refine .inr (.inr (.inr ?_))
      apply propext
      constructor
      · intro d
        exact absurd ⟨q.1, q.2.1, q.2.2, by omega, d⟩ k
      · intro d
        exact absurd d (by decide)
  · rcases bad2 q with z | z
    · exact .inl z
    · exact .inr (.inl z)
theorem goodT {l : List Nat} (k : t ≤ 100000 ∧ 1 ≤ n ∧ n ≤ 1000 ∧ l.length ≤ 6 ∧ l.Nodup) : ¬ (okT t = false ∨ okN n = false ∨ 6 < l.length ∨ l.Nodup = false) := by
  rw [okT_t k.1, okN_t k.2.1 k.2.2.1]
  rintro (q | q | q | q)
  · cases q
  · cases q
  · omega
  · have : l.Nodup := k.2.2.2.2
    rw [q] at this
    cases this
theorem d_together_bad {l : List Nat} (k : ¬ (t ≤ 100000 ∧ 1 ≤ n ∧ n ≤ 1000 ∧ l.length ≤ 6 ∧ l.Nodup)) : a.does (.together t n l) = (a, say (-22)) := by unfold Abs.does; dsimp only; rw [if_pos (badT k)]
theorem d_together_no {l : List Nat} (k : t ≤ 100000 ∧ 1 ≤ n ∧ n ≤ 1000 ∧ l.length ≤ 6 ∧ l.Nodup) {b : Nat} (m : b ∈ l) (hb : ¬ b < a.beds.length) : a.does (.together t n l) = (a, say (-2)) := by
  unfold Abs.does; dsimp only; rw [if_neg (goodT k), if_pos (List.any_eq_true.mpr ⟨b, m, by rw [has_f hb]; rfl⟩)]
theorem any_has {l : List Nat} (m : ∀ b ∈ l, b < a.beds.length) : ¬ (l.any fun b => !(a.has b)) = true := by
  rw [List.any_eq_true]
  rintro ⟨b, hb, q⟩
  rw [has_t (m b hb)] at q
  cases q
theorem d_together {l : List Nat} (k : t ≤ 100000 ∧ 1 ≤ n ∧ n ≤ 1000 ∧ l.length ≤ 6 ∧ l.Nodup) (m : ∀ b ∈ l, b < a.beds.length) : a.does (.together t n l) = (a, say (a.minutesOf t n (fun s => l.all fun b => a.dry b s) : Nat)) := by
  unfold Abs.does; dsimp only; rw [if_neg (goodT k), if_neg (any_has m)]
/-! highest, lowest, least: the folds by minutes -/
def hiM (a : Abs) (t : Nat) (n : Nat) : Nat := (List.range n).foldl (fun m k => if a.height m < a.height (t + k) then t + k else m) t
def loM (a : Abs) (t : Nat) (n : Nat) : Nat := (List.range n).foldl (fun m k => if a.height (t + k) < a.height m then t + k else m) t
def mxH (a : Abs) (t : Nat) (n : Nat) : Nat := (List.range n).foldl (fun m k => max m (a.height (t + k))) 0
theorem hiM_zero : hiM a t 0 = t := rfl
theorem loM_zero : loM a t 0 = t := rfl
theorem mxH_zero : mxH a t 0 = 0 := rfl
theorem hiM_succ : hiM a t (n + 1) = if a.height (hiM a t n) < a.height (t + n) then t + n else hiM a t n := by unfold hiM; rw [List.range_succ, List.foldl_append]; rfl
theorem loM_succ : loM a t (n + 1) = if a.height (t + n) < a.height (loM a t n) then t + n else loM a t n := by unfold loM; rw [List.range_succ, List.foldl_append]; rfl
theorem mxH_succ : mxH a t (n + 1) = max (mxH a t n) (a.height (t + n)) := by unfold mxH; rw [List.range_succ, List.foldl_append]; rfl
theorem hiM_one : hiM a t 1 = t := by rw [hiM_succ, hiM_zero, Nat.add_zero, if_neg (by omega)]
theorem loM_one : loM a t 1 = t := by rw [loM_succ, loM_zero, Nat.add_zero, if_neg (by omega)]
theorem mxH_one : mxH a t 1 = a.height t := by rw [mxH_succ, mxH_zero, Nat.add_zero]; omega
theorem d_highest_bad (k : ¬ (t ≤ 100000 ∧ 1 ≤ n ∧ n ≤ 1000)) : a.does (.highest t n) = (a, say (-22)) := by unfold Abs.does; dsimp only; rw [if_pos (bad2 k)]
theorem d_highest (k : t ≤ 100000 ∧ 1 ≤ n ∧ n ≤ 1000) : a.does (.highest t n) = (a, ⟨(a.height (hiM a t n) : Nat), [hiM a t n]⟩) := by unfold Abs.does; dsimp only; rw [if_neg (good2 k)]; rfl
theorem d_lowest_bad (k : ¬ (t ≤ 100000 ∧ 1 ≤ n ∧ n ≤ 1000)) : a.does (.lowest t n) = (a, say (-22)) := by unfold Abs.does; dsimp only; rw [if_pos (bad2 k)]
theorem d_lowest (k : t ≤ 100000 ∧ 1 ≤ n ∧ n ≤ 1000) : a.does (.lowest t n) = (a, ⟨(a.height (loM a t n) : Nat), [loM a t n]⟩) := by unfold Abs.does; dsimp only; rw [if_neg (good2 k)]; rfl
theorem d_least_bad (k : ¬ (t ≤ 100000 ∧ 1 ≤ n ∧ n ≤ 300)) : a.does (.least t n) = (a, say (-22)) := by unfold Abs.does; dsimp only; rw [if_pos (bad3 k)]
theorem d_least (k : t ≤ 100000 ∧ 1 ≤ n ∧ n ≤ 300) : a.does (.least t n) = (a, say (mxH a t n + 1 : Nat)) := by unfold Abs.does; dsimp only; rw [if_neg (good3 k)]; rfl
/-! rounds -/
def OkR (l : List Nat) : Prop := l.length % 2 = 0 ∧ 2 ≤ l.length ∧ l.length ≤ 8 ∧ ((pairs l).map fun x => x.1).Nodup ∧ ∀ x ∈ pairs l, 1 ≤ x.2 ∧ x.2 ≤ 60
theorem okR_iff (l : List Nat) : okRound l = true ↔ OkR l := by
  unfold okRound OkR
  simp only [Bool.and_eq_true, beq_iff_eq, decide_eq_true_eq, List.all_eq_true]
theorem badR {l : List Nat} (k : ¬ (t ≤ 100000 ∧ OkR l)) : okT t = false ∨ okRound l = false := by
  by_cases q : t ≤ 100000
  · refine .inr ?_
    cases z : okRound l with
    | false => rfl
    | true => exact absurd ⟨q, (okR_iff l).mp z⟩ k
  · exact .inl (okT_f q)
theorem goodR {l : List Nat} (k : t ≤ 100000 ∧ OkR l) : ¬ (okT t = false ∨ okRound l = false) := by
  rw [okT_t k.1, (okR_iff l).mpr k.2]
  rintro (q | q) <;> cases q
theorem any_hasR {l : List Nat} (m : ∀ x ∈ pairs l, x.1 < a.beds.length) : ¬ ((pairs l).any fun x => !(a.has x.1)) = true := by
  rw [List.any_eq_true]
  rintro ⟨b, hb, q⟩
  rw [has_t (m b hb)] at q
  cases q
theorem d_through_bad {l : List Nat} (k : ¬ (t ≤ 100000 ∧ OkR l)) : a.does (.through t l) = (a, say (-22)) := by unfold Abs.does; dsimp only; rw [if_pos (badR k)]
theorem d_through_no {l : List Nat} (k : t ≤ 100000 ∧ OkR l) {x : Nat × Nat} (m : x ∈ pairs l) (hb : ¬ x.1 < a.beds.length) : a.does (.through t l) = (a, say (-2)) := by
  unfold Abs.does; dsimp only; rw [if_neg (goodR k), if_pos (List.any_eq_true.mpr ⟨x, m, by rw [has_f hb]; rfl⟩)]
theorem d_through_none {l : List Nat} (k : t ≤ 100000 ∧ OkR l) (m : ∀ x ∈ pairs l, x.1 < a.beds.length) (r : a.through t (pairs l) = none) : a.does (.through t l) = (a, say (-33)) := by unfold Abs.does; dsimp only; rw [if_neg (goodR k), if_neg (any_hasR m), r]
theorem d_through {l : List Nat} {s : Nat} (k : t ≤ 100000 ∧ OkR l) (m : ∀ x ∈ pairs l, x.1 < a.beds.length) (r : a.through t (pairs l) = some s) : a.does (.through t l) = (a, say (s : Nat)) := by unfold Abs.does; dsimp only; rw [if_neg (goodR k), if_neg (any_hasR m), r]
theorem d_soonest_bad {l : List Nat} (k : ¬ (t ≤ 100000 ∧ OkR l)) : a.does (.soonest t l) = (a, say (-22)) := by unfold Abs.does; dsimp only; rw [if_pos (badR k)]
theorem d_soonest_no {l : List Nat} (k : t ≤ 100000 ∧ OkR l) {x : Nat × Nat} (m : x ∈ pairs l) (hb : ¬ x.1 < a.beds.length) : a.does (.soonest t l) = (a, say (-2)) := by
  unfold Abs.does; dsimp only; rw [if_neg (goodR k), if_pos (List.any_eq_true.mpr ⟨x, m, by rw [has_f hb]; rfl⟩)]
theorem d_soonest_none {l : List Nat} (k : t ≤ 100000 ∧ OkR l) (m : ∀ x ∈ pairs l, x.1 < a.beds.length) (r : a.soonest t (pairs l) = none) : a.does (.soonest t l) = (a, say (-33)) := by unfold Abs.does; dsimp only; rw [if_neg (goodR k), if_neg (any_hasR m), r]
theorem d_soonest {l : List Nat} {x : Nat × List (Nat × Nat)} (k : t ≤ 100000 ∧ OkR l) (m : ∀ x ∈ pairs l, x.1 < a.beds.length) (r : a.soonest t (pairs l) = some x) : a.does (.soonest t l) = (a, ⟨(x.1 : Nat), x.2.map fun y => y.1⟩) := by unfold Abs.does; dsimp only; rw [if_neg (goodR k), if_neg (any_hasR m), r]
/-! all, works, look, state -/
theorem d_all_bad (k : ¬ t ≤ 100000) : a.does (.all t) = (a, say (-22)) := by unfold Abs.does; dsimp only; rw [if_pos (okT_f k)]
theorem d_all (k : t ≤ 100000) : a.does (.all t) = (a, list ((List.range a.beds.length).filter fun b => a.dry b t)) := by unfold Abs.does; dsimp only; rw [okT_t k, if_neg tf]
theorem d_works : a.does .works = (a, list a.done) := rfl
theorem d_look (hb : b < a.beds.length) : a.does (.look b) = (a, ⟨(a.bed b : Nat), [a.done.getD b 0, bit (a.dry b a.now)]⟩) := by unfold Abs.does; dsimp only; rw [has_t hb, if_neg tf]
theorem d_state : a.does .state = (a, ⟨0, [a.now, a.base, a.waves.length, a.beds.length, a.height a.now]⟩) := rfl
end
/-! the machine -/
theorem act_none {c : Kv346.Call} (h : ∀ b, c ≠ .begin_ b) : act none c = (none, say (-11)) := by
  cases c <;> first | rfl | exact absurd rfl (h _)
theorem act_begin_bad {s : State} {b : Nat} (k : ¬ b ≤ 10000) : act s (.begin_ b) = (s, say (-22)) := by
  cases s with
  | none => unfold act; dsimp only; rw [d_begin_bad k, if_pos (by decide)]
  | some a => unfold act; dsimp only; rw [d_begin_bad k]
theorem act_begin {s : State} {b : Nat} (k : b ≤ 10000) : act s (.begin_ b) = (some (begun b), say 0) := by
  cases s with
  | none => unfold act; dsimp only; rw [d_begin k]; exact if_neg (show ¬ ((0 : Int) < 0) by decide)
  | some a => unfold act; dsimp only; rw [d_begin k]
theorem act_some {a : Abs} {c : Kv346.Call} : act (some a) c = (some (stOf a c), (a.does c).2) := by
  unfold act stOf; rfl
end Dh

end
section
set_option Elab.async false
set_option linter.all false
set_option maxRecDepth 100000
namespace Dh
open Kv346
/-! ### rounds -/
theorem through_nil (a : Abs) (t : Nat) : a.through t [] = some t := rfl
theorem through_cons (a : Abs) (t : Nat) (x : Nat × Nat) (l : List (Nat × Nat)) : a.through t (x :: l) = (a.fits x.1 t x.2).bind fun s => a.through (s + x.2) l := by
  obtain ⟨b, n⟩ := x
  have e : a.through t ((b, n) :: l) = (match a.fits b t n with
    | none => none
    | some s => a.through (s + n) l) := rfl
  rw [e]
  dsimp only
  generalize a.fits b t n = z
  cases z <;> rfl
theorem through_app (a : Abs) (o2 : List (Nat × Nat)) : ∀ (o1 : List (Nat × Nat)) (t : Nat), a.through t (o1 ++ o2) = (a.through t o1).bind fun s => a.through s o2
  | [], t => by rw [through_nil]; rfl
  | x :: l, t => by
    rw [List.cons_append, through_cons, through_cons]
    cases a.fits x.1 t x.2 with
    | none => rfl
    | some s => exact through_app a o2 l (s + x.2)
theorem through_snoc {a : Abs} {o : List (Nat × Nat)} {t s : Nat} {x : Nat × Nat} (h : a.through t o = some s) : a.through t (o ++ [x]) = (a.fits x.1 s x.2).map fun z => z + x.2 := by
  rw [through_app, h]
  show a.through s [x] = _
  rw [through_cons]
  cases a.fits x.1 s x.2 with
  | none => rfl
  | some z => exact through_nil a (z + x.2)
theorem fits_ge {a : Abs} {b t n s : Nat} (h : a.fits b t n = some s) : t ≤ s := by
  rw [fits_eq] at h
  exact (firstOf_le h).1
theorem through_ge {a : Abs} : ∀ {o : List (Nat × Nat)} {t s : Nat}, a.through t o = some s → t ≤ s
  | [], t, s, h => by rw [through_nil] at h; cases h; exact Nat.le_refl _
  | x :: l, t, s, h => by
    rw [through_cons] at h
    cases e : a.fits x.1 t x.2 with
    | none => rw [e] at h; cases h
    | some z =>
      rw [e] at h
      have h1 := fits_ge e
      have h2 := through_ge (o := l) (t := z + x.2) h
      omega
/-- a round that stops at one of its beds -/
theorem through_stop {a : Abs} {o : List (Nat × Nat)} {t i : Nat} (h : a.through t (o.take i) = none) : a.through t o = none := by
  rw [← List.take_append_drop i o, through_app, h]
  rfl
/-! ### all orders -/
/-- each order with one more -/
def ext1 (l o : List (Nat × Nat)) : List (List (Nat × Nat)) := (l.filter fun x => !(o.contains x)).map fun x => o ++ [x]
def ext (l : List (Nat × Nat)) (ol : List (List (Nat × Nat))) : List (List (Nat × Nat)) := ol.flatMap (ext1 l)
theorem perms_zero (l : List (Nat × Nat)) : perms l 0 = [[]] := by unfold perms; rfl
theorem perms_step (l : List (Nat × Nat)) (n : Nat) : perms l (n + 1) = l.flatMap fun x => (perms (l.filter fun y => y != x) n).map fun p => x :: p := by rw [perms]
theorem perms_succ : ∀ (n : Nat) (l : List (Nat × Nat)), perms l (n + 1) = ext l (perms l n)
  | 0, l => by
    rw [perms_step, perms_zero]
    unfold ext ext1
    simp only [perms_zero, List.map_cons, List.map_nil, List.flatMap_cons, List.flatMap_nil, List.append_nil, List.nil_append]
    have : (l.filter fun x => !(([] : List (Nat × Nat)).contains x)) = l := by
      rw [List.filter_eq_self]
      intro x _
      rfl
    rw [this]
    induction l with
    | nil => rfl
    | cons x l ih => simp [List.flatMap_cons] at ih ⊢; exact ih
  | n + 1, l => by
    rw [perms_step l (n + 1), perms_step l n]
    unfold ext
    rw [List.flatMap_assoc]
    congr 1
    funext x
    rw [perms_succ n]
    unfold ext
    rw [List.map_flatMap, List.flatMap_map]
    congr 1
    funext o
    unfold ext1
    rw [List.map_map, List.filter_filter]
    have e : (fun a => (!(o.contains a) && (a != x))) = fun a => !((x :: o).contains a) := by
      funext y
      rw [List.contains_cons, Bool.not_or, Bool.and_comm]
      rfl
    rw [e]
    rfl
theorem ext_len (l : List (Nat × Nat)) : ∀ ol : List (List (Nat × Nat)), (ext l ol).length ≤ l.length * ol.length
  | [] => by simp [ext]
  | o :: ol => by
    have ih := ext_len l ol
    have h1 : (ext1 l o).length ≤ l.length := by
      unfold ext1
      rw [List.length_map]
      exact List.length_filter_le _ _
    unfold ext at ih ⊢
    rw [List.flatMap_cons, List.length_append, List.length_cons, Nat.mul_succ]
    omega
theorem perms_len (l : List (Nat × Nat)) (hl : l.length ≤ 4) : ∀ n, (perms l n).length ≤ 4 ^ n
  | 0 => by rw [perms_zero]; exact Nat.le_refl _
  | n + 1 => by
    rw [perms_succ]
    have h1 := ext_len l (perms l n)
    have h2 := perms_len l hl n
    have h3 : l.length * (perms l n).length ≤ 4 * 4 ^ n := Nat.mul_le_mul hl h2
    rw [Nat.pow_succ, Nat.mul_comm]
    omega
theorem mem_ext1 {l o p : List (Nat × Nat)} (h : p ∈ ext1 l o) : ∃ x, x ∈ l ∧ p = o ++ [x] := by
  unfold ext1 at h
  obtain ⟨x, hx, e⟩ := List.mem_map.mp h
  exact ⟨x, (List.mem_filter.mp hx).1, e.symm⟩
theorem perms_sub (l : List (Nat × Nat)) : ∀ (n : Nat) (o : List (Nat × Nat)), o ∈ perms l n → o.length = n ∧ ∀ x, x ∈ o → x ∈ l
  | 0, o, h => by
    rw [perms_zero] at h
    have : o = [] := by simpa using h
    subst this
    exact ⟨rfl, fun x hx => by cases hx⟩
  | n + 1, o, h => by
    rw [perms_succ] at h
    unfold ext at h
    obtain ⟨o', ho', h⟩ := List.mem_flatMap.mp h
    obtain ⟨x, hx, rfl⟩ := mem_ext1 h
    obtain ⟨h1, h2⟩ := perms_sub l n o' ho'
    refine ⟨by rw [List.length_append, h1]; rfl, fun y hy => ?_⟩
    rcases List.mem_append.mp hy with hy | hy
    · exact h2 y hy
    · have : y = x := by simpa using hy
      rw [this]
      exact hx
/-! ### the soonest -/
def better (a : Abs) (t : Nat) (b : Option (Nat × List (Nat × Nat))) (p : List (Nat × Nat)) : Option (Nat × List (Nat × Nat)) := match a.through t p, b with
  | none, b => b
  | some n, none => some (n, p)
  | some n, some c => if n < c.1 then some (n, p) else some c
theorem soonest_eq (a : Abs) (t : Nat) (l : List (Nat × Nat)) : a.soonest t l = (perms l l.length).foldl (better a t) none := by
  unfold Abs.soonest
  congr 1
theorem better_none {a : Abs} {t : Nat} {b : Option (Nat × List (Nat × Nat))} {p : List (Nat × Nat)} (h : a.through t p = none) : better a t b p = b := by unfold better; rw [h]
theorem better_first {a : Abs} {t n : Nat} {p : List (Nat × Nat)} (h : a.through t p = some n) : better a t none p = some (n, p) := by unfold better; rw [h]
theorem better_lt {a : Abs} {t n : Nat} {c : Nat × List (Nat × Nat)} {p : List (Nat × Nat)} (h : a.through t p = some n) (q : n < c.1) : better a t (some c) p = some (n, p) := by unfold better; rw [h]; exact if_pos q
theorem better_ge {a : Abs} {t n : Nat} {c : Nat × List (Nat × Nat)} {p : List (Nat × Nat)} (h : a.through t p = some n) (q : ¬ n < c.1) : better a t (some c) p = some c := by unfold better; rw [h]; exact if_neg q
/-! ### the pairs -/
theorem pairs_len : ∀ l : List Nat, (pairs l).length = l.length / 2
  | [] => rfl
  | [x] => by unfold pairs; simp
  | x :: y :: l => by
    rw [pairs, List.length_cons, pairs_len l, List.length_cons, List.length_cons]
    omega
theorem fst_inj {l : List (Nat × Nat)} (h : (l.map fun x => x.1).Nodup) {x y : Nat × Nat} (hx : x ∈ l) (hy : y ∈ l) (e : x.1 = y.1) : x = y := by
  obtain ⟨i, hi, ex⟩ := List.getElem_of_mem hx
  obtain ⟨j, hj, ey⟩ := List.getElem_of_mem hy
  have hi' : i < (l.map fun x => x.1).length := by rw [List.length_map]; exact hi
  have hj' : j < (l.map fun x => x.1).length := by rw [List.length_map]; exact hj
  have : i = j := (List.getElem_inj h (h₀ := hi') (h₁ := hj')).mp (by rw [List.getElem_map, List.getElem_map, ex, ey, e])
  subst this
  rw [← ex, ey]
end Dh

end
section
set_option Elab.async false
set_option linter.all false
set_option maxRecDepth 100000
set_option maxHeartbeats 2000000
/-! ### readings in short -/
namespace Dh
open PySem PySem.Spec PyProof.Rows L2
section
variable {X : Cx}
/-- a number of the module -/
theorem pe_gi {x : Str} {n : Int} {pos : Pos} (h : ∃ t, X.mg x = some (.int n t)) (hg : Gl X x) (hd : (x == ("__debug__" : Str)) = false := by decide) : PE X (.Name x pos) (tC (.int n)) := by
  obtain ⟨t, e⟩ := h
  exact pe_glob hg e ⟨t, rfl⟩ hd
/-- an object of the module -/
theorem pe_gt {x : Str} {a : Addr} {pos : Pos} (h : X.mg x = some (.ref a)) (hg : Gl X x) (hd : (x == ("__debug__" : Str)) = false := by decide) : PE X (.Name x pos) (tC (.ref a)) := pe_glob (v := .ref a) hg h rfl hd
end
section
variable {p q r : Prop} [Decidable p] [Decidable q] [Decidable r] {A B : Prop} {Q : VK} {H : Hp}
theorem ifd (h1 : p → A) (h2 : ¬ p → B) : if decide p = true then A else B := ite2 (fun c => h1 (of_decide_eq_true c)) (fun c => h2 fun z => c (decide_eq_true z))
theorem ifn (h1 : ¬ p → A) (h2 : p → B) : if (!decide p) = true then A else B := by
  by_cases h : p
  · exact iteNS h (h2 h)
  · rw [decide_eq_false h]
    exact iteT (h1 h)
theorem ifb {c : Bool} (h1 : c = true → A) (h2 : c = false → B) : if c = true then A else B := by
  cases c with
  | true => exact iteT (h1 rfl)
  | false => exact iteF (h2 rfl)
theorem ifnb {c : Bool} (h1 : c = false → A) (h2 : c = true → B) : if (!c) = true then A else B := by
  cases c with
  | true => exact iteF (h2 rfl)
  | false => exact iteT (h1 rfl)
theorem bF (k : Q (.bl (decide q)) H) (h : ¬ q) : Q (.bl false) H := by rw [← decide_eq_false h]; exact k
theorem bE (k : Q (.bl (decide q)) H) (h : p ↔ q) : Q (.bl (decide p)) H := by rw [decide_eq_decide.mpr h]; exact k
theorem vI {i j : Int} (k : Q (.int i) H) (h : j = i) : Q (.int j) H := by rw [h]; exact k
end
/-! ### attributes -/
section
variable {f g : Str} {v x : V} {r : List (Str × V)}
theorem lkh : List.lookup f ((f, v) :: r) = some v := by
  have h : (f == f) = true := beq_self_eq_true f
  simp only [List.lookup, h]
theorem lkm (n : ¬ g = f) : List.lookup g ((f, v) :: r) = List.lookup g r := by
  have h : (g == f) = false := beq_eq_false_iff_ne.mpr n
  simp only [List.lookup, h]
theorem pt0 : putF f v [] = [(f, v)] := rfl
theorem pth : putF f v ((f, x) :: r) = (f, v) :: r := by
  show (if f = f then (f, v) :: r else (f, x) :: putF f v r) = _
  rw [if_pos rfl]
theorem ptm (n : ¬ g = f) : putF f v ((g, x) :: r) = (g, x) :: putF f v r := by
  show (if g = f then (g, v) :: r else (g, x) :: putF f v r) = _
  rw [if_neg n]
end
/-! ### the text's facts in bundles -/
structure Df (K : PySem.W.Frag) (mg : Str → Option Value) (x : Str) (st : Stmt) (f : Addr) (fd : FuncData) (ps : List Str) : Prop where
  fn : Fun K x x st f fd
  mg : mg x = some (.ref f)
  bd : Binds K fd ps []
structure Mh (K : PySem.W.Frag) (C : Addr) (x qual : Str) (st : Stmt) (f : Addr) (fd : FuncData) (ps : List Str) : Prop where
  fn : Fun K x qual st f fd
  me : Meth K C x f
  bd : Binds K fd ps []
structure Cc (K : PySem.W.Frag) (mg : Str → Option Value) (x : Str) (C fI : Addr) : Prop where
  cl : Cls K C
  made : Mk K C fI
  mg : mg x = some (.ref C)
/-- a tuple of numbers of the module -/
def KTup (K : PySem.W.Frag) (a : Addr) (ns : List Int) : Prop := ∃ (o : Obj) (its : Array Value) (n : Nat), K.lookup a = some o ∧ o.cls = .type "tuple" ∧ o.data = .seq its n ∧ its.size ≤ sizeLine ∧ Vals (ns.map V.int) its.toList
theorem KTup.sq {K : PySem.W.Frag} {a : Addr} {ns : List Int} (h : KTup K a ns) (H : Hp) : SqT K H a (ns.map V.int) := .inr h
section
variable {K : PySem.W.Frag} {h : Heap} {mg : Str → Option Value} {x qual : Str} {st : Stmt} {f C : Addr} {ps : List Str} {oc : Value} {od an : Option Addr} {osl : Array (Option Value)} {kV doc pm cdv ct : Value}
theorem gi_mk {n : Int} {t : Nat} (X : K.In h) (G : h.Ns mainGlobals mg) (a : PySem.W.nsIn K mainGlobals x = some (some (.int n t))) : ∃ t, mg x = some (.int n t) := ⟨_, PySem.W.mg_of X G a⟩
theorem gt_mk {a : Addr} {its : Array Value} {nn : Nat} {ns : List Int} (X : K.In h) (G : h.Ns mainGlobals mg) (g : PySem.W.nsIn K mainGlobals x = some (some (.ref a))) (l : K.lookup a = some ⟨.type "tuple", od, .seq its nn, osl⟩) (s : its.size ≤ sizeLine) (v : Vals (ns.map V.int) its.toList) :
    ∃ a, mg x = some (.ref a) ∧ KTup K a ns := ⟨a, PySem.W.mg_of X G g, _, _, _, l, rfl, rfl, s, v⟩
theorem df_mk (X : K.In h) (G : h.Ns mainGlobals mg) (a : PySem.W.nsIn K mainGlobals x = some (some (.ref f)))
    (l : K.lookup f = some ⟨oc, od, .func (PySem.W.fnOf x x (defArgs st) (defBody st) (defScope st) .none kV doc pm an cdv ct), osl⟩) (c : PySem.W.codeIn K cdv x = true) (k : PySem.W.keepIn K (.ref f) = true)
    (b : ∀ (kV doc pm : Value) (an : Option Addr) (cdv ct : Value) (us : List Value), us.length = ps.length → bindArgs (PySem.W.fnOf x x (defArgs st) (defBody st) (defScope st) .none kV doc pm an cdv ct) ⟨us, []⟩ = pure (ps.zip us)) :
    ∃ d, Df K mg x st f d ps := ⟨_, fun_mk l c k, PySem.W.mg_of X G a, (fun_mk l c k).binds b⟩
theorem mh_mk (a : PySem.W.findIn K (.ref C) x = some (some (.ref f))) (i : PySem.W.isFn K (.ref f) = true)
    (l : K.lookup f = some ⟨oc, od, .func (PySem.W.fnOf x qual (defArgs st) (defBody st) (defScope st) .none kV doc pm an cdv ct), osl⟩) (c : PySem.W.codeIn K cdv qual = true) (k : PySem.W.keepIn K (.ref f) = true)
    (b : ∀ (kV doc pm : Value) (an : Option Addr) (cdv ct : Value) (us : List Value), us.length = ps.length → bindArgs (PySem.W.fnOf x qual (defArgs st) (defBody st) (defScope st) .none kV doc pm an cdv ct) ⟨us, []⟩ = pure (ps.zip us)) :
    ∃ d, Mh K C x qual st f d ps := ⟨_, fun_mk l c k, ⟨a, i, k⟩, (fun_mk l c k).binds b⟩
theorem cc_mk (X : K.In h) (G : h.Ns mainGlobals mg) (aC : PySem.W.nsIn K mainGlobals x = some (some (.ref C))) (ai : PySem.W.findIn K (.ref C) "__init__" = some (some (.ref f)))
    (pg : PySem.W.plainGet K C Str.empty = true) (hd : PySem.W.hasDictIn K C = true) (po : PySem.W.plainOver K C = true) (sa : PySem.W.findIn K (.ref C) "__setattr__" = some (some (.builtin "object.__setattr__"))) (mk : PySem.W.makesIn K C = true) (kc : PySem.W.keepIn K (.ref C) = true)
    (ii : PySem.W.isFn K (.ref f) = true) : Cc K mg x C f := ⟨⟨pg, hd, po, sa⟩, ⟨mk, ai, ii, kc⟩, PySem.W.mg_of X G aC⟩
end
/-- how the request binds, in any state -/
theorem binds_any {K : PySem.W.Frag} {x qual : Str} {st : Stmt} {f : Addr} {fd : FuncData} {ps : List Str} (F : Fun K x qual st f fd)
    (h : ∀ (kV doc pm : Value) (an : Option Addr) (cdv ct : Value) (us : List Value), us.length = ps.length → bindArgs (PySem.W.fnOf x qual (defArgs st) (defBody st) (defScope st) .none kV doc pm an cdv ct) ⟨us, []⟩ = pure (ps.zip us)) :
    ∀ (s : Shared) (us : List Value), us.length = ps.length → BindsTo s fd ⟨us, []⟩ (ps.zip us) := by
  obtain ⟨oc, od, kV, doc, pm, an, cdv, ct, osl, rfl, lk, hcd⟩ := F.ex
  exact fun s us hl => .of_eq (h kV doc pm an cdv ct us hl)
end Dh

end
section
set_option Elab.async false
set_option linter.all false
set_option maxRecDepth 100000
set_option maxHeartbeats 2000000
namespace Dh
open PySem PySem.Spec PyProof.Rows L2
/-! ### the text by places -/
def top (i : Nat) : Stmt := PySem.Challenge.pw_dryhours_s01_answers.main.body.getD i (.Pass ⟨0, 0, 0, 0⟩)
abbrev s_is_minute : Stmt := top 22
abbrev s_is_how_many : Stmt := top 23
abbrev s_is_few : Stmt := top 24
abbrev s_is_at_a_bed : Stmt := top 25
abbrev s_are_different : Stmt := top 26
abbrev s_is_bed_height : Stmt := top 27
abbrev s_is_wave : Stmt := top 28
abbrev s_dry_minutes_from : Stmt := top 30
abbrev s_first_minute : Stmt := top 31
abbrev s_first_fit : Stmt := top 32
abbrev s_first_fits : Stmt := top 33
abbrev s_dry_stretches : Stmt := top 34
abbrev s_minutes_all_dry : Stmt := top 35
abbrev s_Wave_init : Stmt := inClass (top 37) 0
abbrev s_Wave_adds_at : Stmt := inClass (top 37) 1
abbrev s_Wave_adds_from : Stmt := inClass (top 37) 2
abbrev s_Bed_init : Stmt := inClass (top 38) 0
abbrev s_Shore_init : Stmt := inClass (top 39) 0
abbrev s_Shore_begin_afresh : Stmt := inClass (top 39) 1
abbrev s_Shore_has_bed : Stmt := inClass (top 39) 2
abbrev s_Shore_has_beds : Stmt := inClass (top 39) 3
abbrev s_Shore_water_at : Stmt := inClass (top 39) 4
abbrev s_Shore_waters_from : Stmt := inClass (top 39) 5
abbrev s_Shore_is_dry : Stmt := inClass (top 39) 6
abbrev s_begin : Stmt := top 41
abbrev s_add_wave : Stmt := top 42
abbrev s_add_bed : Stmt := top 43
abbrev s_raise_bed : Stmt := top 44
abbrev s_pass_minutes : Stmt := top 45
abbrev s_work_at_bed : Stmt := top 46
abbrev s_tell_height : Stmt := top 48
abbrev s_tell_dry : Stmt := top 49
abbrev s_tell_next : Stmt := top 50
abbrev s_tell_wet : Stmt := top 51
abbrev s_tell_lasts : Stmt := top 52
abbrev s_tell_fits : Stmt := top 53
abbrev s_tell_all : Stmt := top 54
abbrev s_tell_works : Stmt := top 55
abbrev s_tell_look : Stmt := top 56
abbrev s_tell_state : Stmt := top 57
abbrev s_one_if_dry : Stmt := top 58
abbrev s_are_minutes : Stmt := top 60
abbrev s_tell_longest : Stmt := top 61
abbrev s_tell_many : Stmt := top 62
abbrev s_tell_stretches : Stmt := top 63
abbrev s_tell_together : Stmt := top 64
abbrev s_tell_highest : Stmt := top 65
abbrev s_tell_lowest : Stmt := top 66
abbrev s_tell_least : Stmt := top 67
abbrev s_Visit_init : Stmt := inClass (top 69) 0
abbrev s_tell_through : Stmt := top 70
abbrev s_tell_soonest : Stmt := top 71
abbrev s_round_refused : Stmt := top 72
abbrev s_is_a_round : Stmt := top 73
abbrev s_beds_of : Stmt := top 74
abbrev s_minutes_of : Stmt := top 75
abbrev s_visits_of : Stmt := top 76
abbrev s_how_long : Stmt := top 77
abbrev s_all_orders : Stmt := top 78
abbrev s_with_one_more : Stmt := top 79
abbrev s_answers : Stmt := top 106
abbrev s_has_a_row : Stmt := top 107
abbrev s_begins_with_a_bed : Stmt := top 108
abbrev s_answer : Stmt := top 109
abbrev s_answer_change : Stmt := top 110
abbrev s_answer_from_a_minute : Stmt := top 111
abbrev s_answer_of_minutes : Stmt := top 112
abbrev s_answer_of_rounds_and_all : Stmt := top 113
theorem sc_is_minute : FnScope ["minute"] ["minute"] (defScope s_is_minute) := ⟨rfl, rfl, rfl, by decide +kernel, rfl, by decide +kernel, by decide +kernel⟩
theorem sc_is_how_many : FnScope ["minutes"] ["minutes"] (defScope s_is_how_many) := ⟨rfl, rfl, rfl, by decide +kernel, rfl, by decide +kernel, by decide +kernel⟩
theorem sc_is_few : FnScope ["minutes"] ["minutes"] (defScope s_is_few) := ⟨rfl, rfl, rfl, by decide +kernel, rfl, by decide +kernel, by decide +kernel⟩
theorem sc_is_at_a_bed : FnScope ["minutes"] ["minutes"] (defScope s_is_at_a_bed) := ⟨rfl, rfl, rfl, by decide +kernel, rfl, by decide +kernel, by decide +kernel⟩
theorem sc_are_different : FnScope ["beds"] ["beds"] (defScope s_are_different) := ⟨rfl, rfl, rfl, by decide +kernel, rfl, by decide +kernel, by decide +kernel⟩
theorem sc_is_bed_height : FnScope ["height"] ["height"] (defScope s_is_bed_height) := ⟨rfl, rfl, rfl, by decide +kernel, rfl, by decide +kernel, by decide +kernel⟩
theorem sc_is_wave : FnScope ["each", "high", "low"] ["each", "high", "low"] (defScope s_is_wave) := ⟨rfl, rfl, rfl, by decide +kernel, rfl, by decide +kernel, by decide +kernel⟩
theorem sc_dry_minutes_from : FnScope ["shore", "bed", "minute", "most", "lasted"] ["shore", "bed", "minute", "most"] (defScope s_dry_minutes_from) := ⟨rfl, rfl, rfl, by decide +kernel, rfl, by decide +kernel, by decide +kernel⟩
theorem sc_first_minute : FnScope ["shore", "bed", "minute", "dry", "tried"] ["shore", "bed", "minute", "dry"] (defScope s_first_minute) := ⟨rfl, rfl, rfl, by decide +kernel, rfl, by decide +kernel, by decide +kernel⟩
theorem sc_first_fit : FnScope ["shore", "bed", "minute", "how_many", "waters", "waits"] ["shore", "bed", "minute", "how_many"] (defScope s_first_fit) := ⟨rfl, rfl, rfl, by decide +kernel, rfl, by decide +kernel, by decide +kernel⟩
theorem sc_first_fits : FnScope ["waters", "height", "how_many", "found", "first", "lasted", "place"] ["waters", "height", "how_many"] (defScope s_first_fits) := ⟨rfl, rfl, rfl, by decide +kernel, rfl, by decide +kernel, by decide +kernel⟩
theorem sc_dry_stretches : FnScope ["shore", "bed", "minute", "how_many", "found", "end", "tried", "lasted"] ["shore", "bed", "minute", "how_many"] (defScope s_dry_stretches) := ⟨rfl, rfl, rfl, by decide +kernel, rfl, by decide +kernel, by decide +kernel⟩
theorem sc_minutes_all_dry : FnScope ["shore", "beds", "minute", "how_many", "heights", "bed", "counted", "water", "height"] ["shore", "beds", "minute", "how_many"] (defScope s_minutes_all_dry) := ⟨rfl, rfl, rfl, by decide +kernel, rfl, by decide +kernel, by decide +kernel⟩
theorem sc_Wave_init : FnScope ["self", "each", "high", "low", "since"] ["self", "each", "high", "low"] (defScope s_Wave_init) := ⟨rfl, rfl, rfl, by decide +kernel, rfl, by decide +kernel, by decide +kernel⟩
theorem sc_Wave_adds_at : FnScope ["self", "minute"] ["self", "minute"] (defScope s_Wave_adds_at) := ⟨rfl, rfl, rfl, by decide +kernel, rfl, by decide +kernel, by decide +kernel⟩
theorem sc_Wave_adds_from : FnScope ["self", "minute", "how_many", "since_lowest", "times"] ["self", "minute", "how_many"] (defScope s_Wave_adds_from) := ⟨rfl, rfl, rfl, by decide +kernel, rfl, by decide +kernel, by decide +kernel⟩
theorem sc_Bed_init : FnScope ["self", "height"] ["self", "height"] (defScope s_Bed_init) := ⟨rfl, rfl, rfl, by decide +kernel, rfl, by decide +kernel, by decide +kernel⟩
theorem sc_Shore_init : FnScope ["self"] ["self"] (defScope s_Shore_init) := ⟨rfl, rfl, rfl, by decide +kernel, rfl, by decide +kernel, by decide +kernel⟩
theorem sc_Shore_begin_afresh : FnScope ["self", "base"] ["self", "base"] (defScope s_Shore_begin_afresh) := ⟨rfl, rfl, rfl, by decide +kernel, rfl, by decide +kernel, by decide +kernel⟩
theorem sc_Shore_has_bed : FnScope ["self", "bed"] ["self", "bed"] (defScope s_Shore_has_bed) := ⟨rfl, rfl, rfl, by decide +kernel, rfl, by decide +kernel, by decide +kernel⟩
theorem sc_Shore_has_beds : FnScope ["self", "beds", "bed"] ["self", "beds"] (defScope s_Shore_has_beds) := ⟨rfl, rfl, rfl, by decide +kernel, rfl, by decide +kernel, by decide +kernel⟩
theorem sc_Shore_water_at : FnScope ["self", "minute", "water", "wave"] ["self", "minute"] (defScope s_Shore_water_at) := ⟨rfl, rfl, rfl, by decide +kernel, rfl, by decide +kernel, by decide +kernel⟩
theorem sc_Shore_waters_from : FnScope ["self", "minute", "how_many", "waters", "wave", "water", "added"] ["self", "minute", "how_many"] (defScope s_Shore_waters_from) := ⟨rfl, rfl, rfl, by decide +kernel, rfl, by decide +kernel, by decide +kernel⟩
theorem sc_Shore_is_dry : FnScope ["self", "bed", "minute"] ["self", "bed", "minute"] (defScope s_Shore_is_dry) := ⟨rfl, rfl, rfl, by decide +kernel, rfl, by decide +kernel, by decide +kernel⟩
theorem sc_begin : FnScope ["shore", "base"] ["shore", "base"] (defScope s_begin) := ⟨rfl, rfl, rfl, by decide +kernel, rfl, by decide +kernel, by decide +kernel⟩
theorem sc_add_wave : FnScope ["shore", "each", "high", "low"] ["shore", "each", "high", "low"] (defScope s_add_wave) := ⟨rfl, rfl, rfl, by decide +kernel, rfl, by decide +kernel, by decide +kernel⟩
theorem sc_add_bed : FnScope ["shore", "height"] ["shore", "height"] (defScope s_add_bed) := ⟨rfl, rfl, rfl, by decide +kernel, rfl, by decide +kernel, by decide +kernel⟩
theorem sc_raise_bed : FnScope ["shore", "bed", "height", "raised", "lay"] ["shore", "bed", "height"] (defScope s_raise_bed) := ⟨rfl, rfl, rfl, by decide +kernel, rfl, by decide +kernel, by decide +kernel⟩
theorem sc_pass_minutes : FnScope ["shore", "how_many"] ["shore", "how_many"] (defScope s_pass_minutes) := ⟨rfl, rfl, rfl, by decide +kernel, rfl, by decide +kernel, by decide +kernel⟩
theorem sc_work_at_bed : FnScope ["shore", "bed", "how_many", "worked_at"] ["shore", "bed", "how_many"] (defScope s_work_at_bed) := ⟨rfl, rfl, rfl, by decide +kernel, rfl, by decide +kernel, by decide +kernel⟩
theorem sc_tell_height : FnScope ["shore", "minute"] ["shore", "minute"] (defScope s_tell_height) := ⟨rfl, rfl, rfl, by decide +kernel, rfl, by decide +kernel, by decide +kernel⟩
theorem sc_tell_dry : FnScope ["shore", "bed", "minute"] ["shore", "bed", "minute"] (defScope s_tell_dry) := ⟨rfl, rfl, rfl, by decide +kernel, rfl, by decide +kernel, by decide +kernel⟩
theorem sc_tell_next : FnScope ["shore", "bed", "minute", "first"] ["shore", "bed", "minute"] (defScope s_tell_next) := ⟨rfl, rfl, rfl, by decide +kernel, rfl, by decide +kernel, by decide +kernel⟩
theorem sc_tell_wet : FnScope ["shore", "bed", "minute", "first"] ["shore", "bed", "minute"] (defScope s_tell_wet) := ⟨rfl, rfl, rfl, by decide +kernel, rfl, by decide +kernel, by decide +kernel⟩
theorem sc_tell_lasts : FnScope ["shore", "bed", "minute"] ["shore", "bed", "minute"] (defScope s_tell_lasts) := ⟨rfl, rfl, rfl, by decide +kernel, rfl, by decide +kernel, by decide +kernel⟩
theorem sc_tell_fits : FnScope ["shore", "bed", "minute", "how_many", "first"] ["shore", "bed", "minute", "how_many"] (defScope s_tell_fits) := ⟨rfl, rfl, rfl, by decide +kernel, rfl, by decide +kernel, by decide +kernel⟩
theorem sc_tell_all : FnScope ["shore", "minute", "dry", "bed"] ["shore", "minute"] (defScope s_tell_all) := ⟨rfl, rfl, rfl, by decide +kernel, rfl, by decide +kernel, by decide +kernel⟩
theorem sc_tell_works : FnScope ["shore", "bed"] ["shore"] (defScope s_tell_works) := ⟨rfl, rfl, rfl, by decide +kernel, rfl, by decide +kernel, by decide +kernel⟩
theorem sc_tell_look : FnScope ["shore", "bed", "looked_at"] ["shore", "bed"] (defScope s_tell_look) := ⟨rfl, rfl, rfl, by decide +kernel, rfl, by decide +kernel, by decide +kernel⟩
theorem sc_tell_state : FnScope ["shore"] ["shore"] (defScope s_tell_state) := ⟨rfl, rfl, rfl, by decide +kernel, rfl, by decide +kernel, by decide +kernel⟩
theorem sc_one_if_dry : FnScope ["shore", "bed", "minute"] ["shore", "bed", "minute"] (defScope s_one_if_dry) := ⟨rfl, rfl, rfl, by decide +kernel, rfl, by decide +kernel, by decide +kernel⟩
theorem sc_are_minutes : FnScope ["minute", "how_many"] ["minute", "how_many"] (defScope s_are_minutes) := ⟨rfl, rfl, rfl, by decide +kernel, rfl, by decide +kernel, by decide +kernel⟩
theorem sc_tell_longest : FnScope ["shore", "bed", "minute", "how_many", "longest", "begins", "first", "lasted"] ["shore", "bed", "minute", "how_many"] (defScope s_tell_longest) := ⟨rfl, rfl, rfl, by decide +kernel, rfl, by decide +kernel, by decide +kernel⟩
theorem sc_tell_many : FnScope ["shore", "bed", "minute", "how_many"] ["shore", "bed", "minute", "how_many"] (defScope s_tell_many) := ⟨rfl, rfl, rfl, by decide +kernel, rfl, by decide +kernel, by decide +kernel⟩
theorem sc_tell_stretches : FnScope ["shore", "bed", "minute", "how_many", "stretches", "told", "first", "lasted"] ["shore", "bed", "minute", "how_many"] (defScope s_tell_stretches) := ⟨rfl, rfl, rfl, by decide +kernel, rfl, by decide +kernel, by decide +kernel⟩
theorem sc_tell_together : FnScope ["shore", "minute", "how_many", "beds"] ["shore", "minute", "how_many", "beds"] (defScope s_tell_together) := ⟨rfl, rfl, rfl, by decide +kernel, rfl, by decide +kernel, by decide +kernel⟩
theorem sc_tell_highest : FnScope ["shore", "minute", "how_many", "waters", "highest"] ["shore", "minute", "how_many"] (defScope s_tell_highest) := ⟨rfl, rfl, rfl, by decide +kernel, rfl, by decide +kernel, by decide +kernel⟩
theorem sc_tell_lowest : FnScope ["shore", "minute", "how_many", "waters", "lowest"] ["shore", "minute", "how_many"] (defScope s_tell_lowest) := ⟨rfl, rfl, rfl, by decide +kernel, rfl, by decide +kernel, by decide +kernel⟩
theorem sc_tell_least : FnScope ["shore", "minute", "how_many"] ["shore", "minute", "how_many"] (defScope s_tell_least) := ⟨rfl, rfl, rfl, by decide +kernel, rfl, by decide +kernel, by decide +kernel⟩
theorem sc_Visit_init : FnScope ["self", "bed", "how_many", "begins"] ["self", "bed", "how_many", "begins"] (defScope s_Visit_init) := ⟨rfl, rfl, rfl, by decide +kernel, rfl, by decide +kernel, by decide +kernel⟩
theorem sc_tell_through : FnScope ["shore", "minute", "pairs", "refused", "lasts"] ["shore", "minute", "pairs"] (defScope s_tell_through) := ⟨rfl, rfl, rfl, by decide +kernel, rfl, by decide +kernel, by decide +kernel⟩
theorem sc_tell_soonest : FnScope ["shore", "minute", "pairs", "refused", "shortest", "beds", "order", "lasts", "visit"] ["shore", "minute", "pairs"] (defScope s_tell_soonest) := ⟨rfl, rfl, rfl, by decide +kernel, rfl, by decide +kernel, by decide +kernel⟩
theorem sc_round_refused : FnScope ["shore", "minute", "pairs"] ["shore", "minute", "pairs"] (defScope s_round_refused) := ⟨rfl, rfl, rfl, by decide +kernel, rfl, by decide +kernel, by decide +kernel⟩
theorem sc_is_a_round : FnScope ["pairs", "how_many"] ["pairs"] (defScope s_is_a_round) := ⟨rfl, rfl, rfl, by decide +kernel, rfl, by decide +kernel, by decide +kernel⟩
theorem sc_beds_of : FnScope ["pairs"] ["pairs"] (defScope s_beds_of) := ⟨rfl, rfl, rfl, by decide +kernel, rfl, by decide +kernel, by decide +kernel⟩
theorem sc_minutes_of : FnScope ["pairs"] ["pairs"] (defScope s_minutes_of) := ⟨rfl, rfl, rfl, by decide +kernel, rfl, by decide +kernel, by decide +kernel⟩
theorem sc_visits_of : FnScope ["shore", "minute", "pairs", "longest", "waters", "visits", "bed", "how_many"] ["shore", "minute", "pairs"] (defScope s_visits_of) := ⟨rfl, rfl, rfl, by decide +kernel, rfl, by decide +kernel, by decide +kernel⟩
theorem sc_how_long : FnScope ["order", "lasted", "visit", "begins"] ["order"] (defScope s_how_long) := ⟨rfl, rfl, rfl, by decide +kernel, rfl, by decide +kernel, by decide +kernel⟩
theorem sc_all_orders : FnScope ["visits", "orders", "visit"] ["visits"] (defScope s_all_orders) := ⟨rfl, rfl, rfl, by decide +kernel, rfl, by decide +kernel, by decide +kernel⟩
theorem sc_with_one_more : FnScope ["orders", "visits", "longer", "order", "beds", "visit"] ["orders", "visits"] (defScope s_with_one_more) := ⟨rfl, rfl, rfl, by decide +kernel, rfl, by decide +kernel, by decide +kernel⟩
theorem sc_answers : FnScope ["calls", "shore", "answered", "place", "number", "behind", "told", "row_place", "numbers"] ["calls"] (defScope s_answers) := ⟨rfl, rfl, rfl, by decide +kernel, rfl, by decide +kernel, by decide +kernel⟩
theorem sc_has_a_row : FnScope ["number"] ["number"] (defScope s_has_a_row) := ⟨rfl, rfl, rfl, by decide +kernel, rfl, by decide +kernel, by decide +kernel⟩
theorem sc_begins_with_a_bed : FnScope ["number"] ["number"] (defScope s_begins_with_a_bed) := ⟨rfl, rfl, rfl, by decide +kernel, rfl, by decide +kernel, by decide +kernel⟩
theorem sc_answer : FnScope ["shore", "number", "told"] ["shore", "number", "told"] (defScope s_answer) := ⟨rfl, rfl, rfl, by decide +kernel, rfl, by decide +kernel, by decide +kernel⟩
theorem sc_answer_change : FnScope ["shore", "number", "told"] ["shore", "number", "told"] (defScope s_answer_change) := ⟨rfl, rfl, rfl, by decide +kernel, rfl, by decide +kernel, by decide +kernel⟩
theorem sc_answer_from_a_minute : FnScope ["shore", "number", "told"] ["shore", "number", "told"] (defScope s_answer_from_a_minute) := ⟨rfl, rfl, rfl, by decide +kernel, rfl, by decide +kernel, by decide +kernel⟩
theorem sc_answer_of_minutes : FnScope ["shore", "number", "told"] ["shore", "number", "told"] (defScope s_answer_of_minutes) := ⟨rfl, rfl, rfl, by decide +kernel, rfl, by decide +kernel, by decide +kernel⟩
theorem sc_answer_of_rounds_and_all : FnScope ["shore", "number", "told"] ["shore", "number", "told"] (defScope s_answer_of_rounds_and_all) := ⟨rfl, rfl, rfl, by decide +kernel, rfl, by decide +kernel, by decide +kernel⟩
/-! ### addresses -/
structure Ad where
  C_Wave : Addr
  C_Bed : Addr
  C_Shore : Addr
  C_Visit : Addr
  a_is_minute : Addr
  d_is_minute : FuncData
  a_is_how_many : Addr
  d_is_how_many : FuncData
  a_is_few : Addr
  d_is_few : FuncData
  a_is_at_a_bed : Addr
  d_is_at_a_bed : FuncData
  a_are_different : Addr
  d_are_different : FuncData
  a_is_bed_height : Addr
  d_is_bed_height : FuncData
  a_is_wave : Addr
  d_is_wave : FuncData
  a_dry_minutes_from : Addr
  d_dry_minutes_from : FuncData
  a_first_minute : Addr
  d_first_minute : FuncData
  a_first_fit : Addr
  d_first_fit : FuncData
  a_first_fits : Addr
  d_first_fits : FuncData
  a_dry_stretches : Addr
  d_dry_stretches : FuncData
  a_minutes_all_dry : Addr
  d_minutes_all_dry : FuncData
  a_Wave_init : Addr
  d_Wave_init : FuncData
  a_Wave_adds_at : Addr
  d_Wave_adds_at : FuncData
  a_Wave_adds_from : Addr
  d_Wave_adds_from : FuncData
  a_Bed_init : Addr
  d_Bed_init : FuncData
  a_Shore_init : Addr
  d_Shore_init : FuncData
  a_Shore_begin_afresh : Addr
  d_Shore_begin_afresh : FuncData
  a_Shore_has_bed : Addr
  d_Shore_has_bed : FuncData
  a_Shore_has_beds : Addr
  d_Shore_has_beds : FuncData
  a_Shore_water_at : Addr
  d_Shore_water_at : FuncData
  a_Shore_waters_from : Addr
  d_Shore_waters_from : FuncData
  a_Shore_is_dry : Addr
  d_Shore_is_dry : FuncData
  a_begin : Addr
  d_begin : FuncData
  a_add_wave : Addr
  d_add_wave : FuncData
  a_add_bed : Addr
  d_add_bed : FuncData
  a_raise_bed : Addr
  d_raise_bed : FuncData
  a_pass_minutes : Addr
  d_pass_minutes : FuncData
  a_work_at_bed : Addr
  d_work_at_bed : FuncData
  a_tell_height : Addr
  d_tell_height : FuncData
  a_tell_dry : Addr
  d_tell_dry : FuncData
  a_tell_next : Addr
  d_tell_next : FuncData
  a_tell_wet : Addr
  d_tell_wet : FuncData
  a_tell_lasts : Addr
  d_tell_lasts : FuncData
  a_tell_fits : Addr
  d_tell_fits : FuncData
  a_tell_all : Addr
  d_tell_all : FuncData
  a_tell_works : Addr
  d_tell_works : FuncData
  a_tell_look : Addr
  d_tell_look : FuncData
  a_tell_state : Addr
  d_tell_state : FuncData
  a_one_if_dry : Addr
  d_one_if_dry : FuncData
  a_are_minutes : Addr
  d_are_minutes : FuncData
  a_tell_longest : Addr
  d_tell_longest : FuncData
  a_tell_many : Addr
  d_tell_many : FuncData
  a_tell_stretches : Addr
  d_tell_stretches : FuncData
  a_tell_together : Addr
  d_tell_together : FuncData
  a_tell_highest : Addr
  d_tell_highest : FuncData
  a_tell_lowest : Addr
  d_tell_lowest : FuncData
  a_tell_least : Addr
  d_tell_least : FuncData
  a_Visit_init : Addr
  d_Visit_init : FuncData
  a_tell_through : Addr
  d_tell_through : FuncData
  a_tell_soonest : Addr
  d_tell_soonest : FuncData
  a_round_refused : Addr
  d_round_refused : FuncData
  a_is_a_round : Addr
  d_is_a_round : FuncData
  a_beds_of : Addr
  d_beds_of : FuncData
  a_minutes_of : Addr
  d_minutes_of : FuncData
  a_visits_of : Addr
  d_visits_of : FuncData
  a_how_long : Addr
  d_how_long : FuncData
  a_all_orders : Addr
  d_all_orders : FuncData
  a_with_one_more : Addr
  d_with_one_more : FuncData
  a_answers : Addr
  d_answers : FuncData
  a_has_a_row : Addr
  d_has_a_row : FuncData
  a_begins_with_a_bed : Addr
  d_begins_with_a_bed : FuncData
  a_answer : Addr
  d_answer : FuncData
  a_answer_change : Addr
  d_answer_change : FuncData
  a_answer_from_a_minute : Addr
  d_answer_from_a_minute : FuncData
  a_answer_of_minutes : Addr
  d_answer_of_minutes : FuncData
  a_answer_of_rounds_and_all : Addr
  d_answer_of_rounds_and_all : FuncData
  w_WHOLE_NUMBERS : Addr
/-! ### facts of the text -/
structure Tx (K : PySem.W.Frag) (mg : Str → Option Value) (A : Ad) : Prop where
  Wave : Cc K mg "Wave" A.C_Wave A.a_Wave_init
  f_Wave_each : NoAttr K A.C_Wave "each"
  f_Wave_low : NoAttr K A.C_Wave "low"
  f_Wave_added : NoAttr K A.C_Wave "added"
  Bed : Cc K mg "Bed" A.C_Bed A.a_Bed_init
  f_Bed_height : NoAttr K A.C_Bed "height"
  f_Bed_worked : NoAttr K A.C_Bed "worked"
  Shore : Cc K mg "Shore" A.C_Shore A.a_Shore_init
  f_Shore_begun : NoAttr K A.C_Shore "begun"
  f_Shore_base : NoAttr K A.C_Shore "base"
  f_Shore_minute : NoAttr K A.C_Shore "minute"
  f_Shore_waves : NoAttr K A.C_Shore "waves"
  f_Shore_beds : NoAttr K A.C_Shore "beds"
  Visit : Cc K mg "Visit" A.C_Visit A.a_Visit_init
  f_Visit_bed : NoAttr K A.C_Visit "bed"
  f_Visit_how_many : NoAttr K A.C_Visit "how_many"
  f_Visit_begins : NoAttr K A.C_Visit "begins"
  is_minute : Df K mg "is_minute" s_is_minute A.a_is_minute A.d_is_minute ["minute"]
  is_how_many : Df K mg "is_how_many" s_is_how_many A.a_is_how_many A.d_is_how_many ["minutes"]
  is_few : Df K mg "is_few" s_is_few A.a_is_few A.d_is_few ["minutes"]
  is_at_a_bed : Df K mg "is_at_a_bed" s_is_at_a_bed A.a_is_at_a_bed A.d_is_at_a_bed ["minutes"]
  are_different : Df K mg "are_different" s_are_different A.a_are_different A.d_are_different ["beds"]
  is_bed_height : Df K mg "is_bed_height" s_is_bed_height A.a_is_bed_height A.d_is_bed_height ["height"]
  is_wave : Df K mg "is_wave" s_is_wave A.a_is_wave A.d_is_wave ["each", "high", "low"]
  dry_minutes_from : Df K mg "dry_minutes_from" s_dry_minutes_from A.a_dry_minutes_from A.d_dry_minutes_from ["shore", "bed", "minute", "most"]
  first_minute : Df K mg "first_minute" s_first_minute A.a_first_minute A.d_first_minute ["shore", "bed", "minute", "dry"]
  first_fit : Df K mg "first_fit" s_first_fit A.a_first_fit A.d_first_fit ["shore", "bed", "minute", "how_many"]
  first_fits : Df K mg "first_fits" s_first_fits A.a_first_fits A.d_first_fits ["waters", "height", "how_many"]
  dry_stretches : Df K mg "dry_stretches" s_dry_stretches A.a_dry_stretches A.d_dry_stretches ["shore", "bed", "minute", "how_many"]
  minutes_all_dry : Df K mg "minutes_all_dry" s_minutes_all_dry A.a_minutes_all_dry A.d_minutes_all_dry ["shore", "beds", "minute", "how_many"]
  Wave_init : Mh K A.C_Wave "__init__" "Wave.__init__" s_Wave_init A.a_Wave_init A.d_Wave_init ["self", "each", "high", "low"]
  Wave_adds_at : Mh K A.C_Wave "adds_at" "Wave.adds_at" s_Wave_adds_at A.a_Wave_adds_at A.d_Wave_adds_at ["self", "minute"]
  Wave_adds_from : Mh K A.C_Wave "adds_from" "Wave.adds_from" s_Wave_adds_from A.a_Wave_adds_from A.d_Wave_adds_from ["self", "minute", "how_many"]
  Bed_init : Mh K A.C_Bed "__init__" "Bed.__init__" s_Bed_init A.a_Bed_init A.d_Bed_init ["self", "height"]
  Shore_init : Mh K A.C_Shore "__init__" "Shore.__init__" s_Shore_init A.a_Shore_init A.d_Shore_init ["self"]
  Shore_begin_afresh : Mh K A.C_Shore "begin_afresh" "Shore.begin_afresh" s_Shore_begin_afresh A.a_Shore_begin_afresh A.d_Shore_begin_afresh ["self", "base"]
  Shore_has_bed : Mh K A.C_Shore "has_bed" "Shore.has_bed" s_Shore_has_bed A.a_Shore_has_bed A.d_Shore_has_bed ["self", "bed"]
  Shore_has_beds : Mh K A.C_Shore "has_beds" "Shore.has_beds" s_Shore_has_beds A.a_Shore_has_beds A.d_Shore_has_beds ["self", "beds"]
  Shore_water_at : Mh K A.C_Shore "water_at" "Shore.water_at" s_Shore_water_at A.a_Shore_water_at A.d_Shore_water_at ["self", "minute"]
  Shore_waters_from : Mh K A.C_Shore "waters_from" "Shore.waters_from" s_Shore_waters_from A.a_Shore_waters_from A.d_Shore_waters_from ["self", "minute", "how_many"]
  Shore_is_dry : Mh K A.C_Shore "is_dry" "Shore.is_dry" s_Shore_is_dry A.a_Shore_is_dry A.d_Shore_is_dry ["self", "bed", "minute"]
  begin : Df K mg "begin" s_begin A.a_begin A.d_begin ["shore", "base"]
  add_wave : Df K mg "add_wave" s_add_wave A.a_add_wave A.d_add_wave ["shore", "each", "high", "low"]
  add_bed : Df K mg "add_bed" s_add_bed A.a_add_bed A.d_add_bed ["shore", "height"]
  raise_bed : Df K mg "raise_bed" s_raise_bed A.a_raise_bed A.d_raise_bed ["shore", "bed", "height"]
  pass_minutes : Df K mg "pass_minutes" s_pass_minutes A.a_pass_minutes A.d_pass_minutes ["shore", "how_many"]
  work_at_bed : Df K mg "work_at_bed" s_work_at_bed A.a_work_at_bed A.d_work_at_bed ["shore", "bed", "how_many"]
  tell_height : Df K mg "tell_height" s_tell_height A.a_tell_height A.d_tell_height ["shore", "minute"]
  tell_dry : Df K mg "tell_dry" s_tell_dry A.a_tell_dry A.d_tell_dry ["shore", "bed", "minute"]
  tell_next : Df K mg "tell_next" s_tell_next A.a_tell_next A.d_tell_next ["shore", "bed", "minute"]
  tell_wet : Df K mg "tell_wet" s_tell_wet A.a_tell_wet A.d_tell_wet ["shore", "bed", "minute"]
  tell_lasts : Df K mg "tell_lasts" s_tell_lasts A.a_tell_lasts A.d_tell_lasts ["shore", "bed", "minute"]
  tell_fits : Df K mg "tell_fits" s_tell_fits A.a_tell_fits A.d_tell_fits ["shore", "bed", "minute", "how_many"]
  tell_all : Df K mg "tell_all" s_tell_all A.a_tell_all A.d_tell_all ["shore", "minute"]
  tell_works : Df K mg "tell_works" s_tell_works A.a_tell_works A.d_tell_works ["shore"]
  tell_look : Df K mg "tell_look" s_tell_look A.a_tell_look A.d_tell_look ["shore", "bed"]
  tell_state : Df K mg "tell_state" s_tell_state A.a_tell_state A.d_tell_state ["shore"]
  one_if_dry : Df K mg "one_if_dry" s_one_if_dry A.a_one_if_dry A.d_one_if_dry ["shore", "bed", "minute"]
  are_minutes : Df K mg "are_minutes" s_are_minutes A.a_are_minutes A.d_are_minutes ["minute", "how_many"]
  tell_longest : Df K mg "tell_longest" s_tell_longest A.a_tell_longest A.d_tell_longest ["shore", "bed", "minute", "how_many"]
  tell_many : Df K mg "tell_many" s_tell_many A.a_tell_many A.d_tell_many ["shore", "bed", "minute", "how_many"]
  tell_stretches : Df K mg "tell_stretches" s_tell_stretches A.a_tell_stretches A.d_tell_stretches ["shore", "bed", "minute", "how_many"]
  tell_together : Df K mg "tell_together" s_tell_together A.a_tell_together A.d_tell_together ["shore", "minute", "how_many", "beds"]
  tell_highest : Df K mg "tell_highest" s_tell_highest A.a_tell_highest A.d_tell_highest ["shore", "minute", "how_many"]
  tell_lowest : Df K mg "tell_lowest" s_tell_lowest A.a_tell_lowest A.d_tell_lowest ["shore", "minute", "how_many"]
  tell_least : Df K mg "tell_least" s_tell_least A.a_tell_least A.d_tell_least ["shore", "minute", "how_many"]
  Visit_init : Mh K A.C_Visit "__init__" "Visit.__init__" s_Visit_init A.a_Visit_init A.d_Visit_init ["self", "bed", "how_many", "begins"]
  tell_through : Df K mg "tell_through" s_tell_through A.a_tell_through A.d_tell_through ["shore", "minute", "pairs"]
  tell_soonest : Df K mg "tell_soonest" s_tell_soonest A.a_tell_soonest A.d_tell_soonest ["shore", "minute", "pairs"]
  round_refused : Df K mg "round_refused" s_round_refused A.a_round_refused A.d_round_refused ["shore", "minute", "pairs"]
  is_a_round : Df K mg "is_a_round" s_is_a_round A.a_is_a_round A.d_is_a_round ["pairs"]
  beds_of : Df K mg "beds_of" s_beds_of A.a_beds_of A.d_beds_of ["pairs"]
  minutes_of : Df K mg "minutes_of" s_minutes_of A.a_minutes_of A.d_minutes_of ["pairs"]
  visits_of : Df K mg "visits_of" s_visits_of A.a_visits_of A.d_visits_of ["shore", "minute", "pairs"]
  how_long : Df K mg "how_long" s_how_long A.a_how_long A.d_how_long ["order"]
  all_orders : Df K mg "all_orders" s_all_orders A.a_all_orders A.d_all_orders ["visits"]
  with_one_more : Df K mg "with_one_more" s_with_one_more A.a_with_one_more A.d_with_one_more ["orders", "visits"]
  answers : Df K mg "answers" s_answers A.a_answers A.d_answers ["calls"]
  has_a_row : Df K mg "has_a_row" s_has_a_row A.a_has_a_row A.d_has_a_row ["number"]
  begins_with_a_bed : Df K mg "begins_with_a_bed" s_begins_with_a_bed A.a_begins_with_a_bed A.d_begins_with_a_bed ["number"]
  answer : Df K mg "answer" s_answer A.a_answer A.d_answer ["shore", "number", "told"]
  answer_change : Df K mg "answer_change" s_answer_change A.a_answer_change A.d_answer_change ["shore", "number", "told"]
  answer_from_a_minute : Df K mg "answer_from_a_minute" s_answer_from_a_minute A.a_answer_from_a_minute A.d_answer_from_a_minute ["shore", "number", "told"]
  answer_of_minutes : Df K mg "answer_of_minutes" s_answer_of_minutes A.a_answer_of_minutes A.d_answer_of_minutes ["shore", "number", "told"]
  answer_of_rounds_and_all : Df K mg "answer_of_rounds_and_all" s_answer_of_rounds_and_all A.a_answer_of_rounds_and_all A.d_answer_of_rounds_and_all ["shore", "number", "told"]
  g_NO_SUCH_BED : ∃ t, mg "NO_SUCH_BED" = some (.int (-2) t)
  g_NOT_BEGUN : ∃ t, mg "NOT_BEGUN" = some (.int (-11) t)
  g_NOT_DRY : ∃ t, mg "NOT_DRY" = some (.int (-16) t)
  g_OUT_OF_RANGE : ∃ t, mg "OUT_OF_RANGE" = some (.int (-22) t)
  g_TOO_MANY : ∃ t, mg "TOO_MANY" = some (.int (-28) t)
  g_NOT_SO_SOON : ∃ t, mg "NOT_SO_SOON" = some (.int (-33) t)
  g_TOO_LATE : ∃ t, mg "TOO_LATE" = some (.int (-75) t)
  g_SPAN : ∃ t, mg "SPAN" = some (.int (1500) t)
  g_LAST_MINUTE : ∃ t, mg "LAST_MINUTE" = some (.int (100000) t)
  g_MOST_MINUTES : ∃ t, mg "MOST_MINUTES" = some (.int (1000) t)
  g_MOST_OF_FEW_MINUTES : ∃ t, mg "MOST_OF_FEW_MINUTES" = some (.int (300) t)
  g_MOST_BEDS_OF_A_ROUND : ∃ t, mg "MOST_BEDS_OF_A_ROUND" = some (.int (4) t)
  g_MOST_MINUTES_AT_A_BED : ∃ t, mg "MOST_MINUTES_AT_A_BED" = some (.int (60) t)
  g_HIGHEST_BASE : ∃ t, mg "HIGHEST_BASE" = some (.int (10000) t)
  g_HIGHEST_BED : ∃ t, mg "HIGHEST_BED" = some (.int (20000) t)
  g_MOST_BEDS : ∃ t, mg "MOST_BEDS" = some (.int (6) t)
  g_MOST_WAVES : ∃ t, mg "MOST_WAVES" = some (.int (4) t)
  g_SHORTEST_WAVE : ∃ t, mg "SHORTEST_WAVE" = some (.int (2) t)
  g_LONGEST_WAVE : ∃ t, mg "LONGEST_WAVE" = some (.int (2000) t)
  g_LOWEST_WAVE : ∃ t, mg "LOWEST_WAVE" = some (.int (1) t)
  g_HIGHEST_WAVE : ∃ t, mg "HIGHEST_WAVE" = some (.int (1000) t)
  g_BEGIN : ∃ t, mg "BEGIN" = some (.int (0) t)
  g_WAVE : ∃ t, mg "WAVE" = some (.int (1) t)
  g_BED : ∃ t, mg "BED" = some (.int (2) t)
  g_RAISE : ∃ t, mg "RAISE" = some (.int (3) t)
  g_MINUTES : ∃ t, mg "MINUTES" = some (.int (4) t)
  g_WORK : ∃ t, mg "WORK" = some (.int (5) t)
  g_HEIGHT : ∃ t, mg "HEIGHT" = some (.int (6) t)
  g_DRY : ∃ t, mg "DRY" = some (.int (7) t)
  g_NEXT : ∃ t, mg "NEXT" = some (.int (8) t)
  g_WET : ∃ t, mg "WET" = some (.int (9) t)
  g_LASTS : ∃ t, mg "LASTS" = some (.int (10) t)
  g_FITS : ∃ t, mg "FITS" = some (.int (11) t)
  g_LONGEST : ∃ t, mg "LONGEST" = some (.int (12) t)
  g_MANY : ∃ t, mg "MANY" = some (.int (13) t)
  g_STRETCHES : ∃ t, mg "STRETCHES" = some (.int (14) t)
  g_TOGETHER : ∃ t, mg "TOGETHER" = some (.int (15) t)
  g_HIGHEST : ∃ t, mg "HIGHEST" = some (.int (16) t)
  g_LOWEST : ∃ t, mg "LOWEST" = some (.int (17) t)
  g_LEAST : ∃ t, mg "LEAST" = some (.int (18) t)
  g_THROUGH : ∃ t, mg "THROUGH" = some (.int (19) t)
  g_SOONEST : ∃ t, mg "SOONEST" = some (.int (20) t)
  g_ALL : ∃ t, mg "ALL" = some (.int (21) t)
  g_WORKS : ∃ t, mg "WORKS" = some (.int (22) t)
  g_LOOK : ∃ t, mg "LOOK" = some (.int (23) t)
  t_WHOLE_NUMBERS : mg "WHOLE_NUMBERS" = some (.ref A.w_WHOLE_NUMBERS) ∧ KTup K A.w_WHOLE_NUMBERS [1, 3, 1, 2, 1, 2, 1, 2, 2, 2, 2, 3, 3, 3, 3, 2, 2, 2, 2, 1, 1, 1, 0, 1, 0]
  n_range : mg "range" = none
  n_max : mg "max" = none
  n_min : mg "min" = none
  n_zip : mg "zip" = none
  n_len : mg "len" = none
  n_all : mg "all" = none
  n_set : mg "set" = none
/-- the attributes of a Wave -/
def F_Wave (v0 v1 v2 : V) : List (Str × V) := [("each", v0), ("low", v1), ("added", v2)]
section
variable {v0 v1 v2 u : V}
theorem F_Wave_each : (F_Wave v0 v1 v2).lookup ("each" : Str) = some v0 := by unfold F_Wave; rw [lkh]
theorem F_Wave_put_each : putF "each" u (F_Wave v0 v1 v2) = F_Wave u v1 v2 := by unfold F_Wave; rw [pth]
theorem F_Wave_low : (F_Wave v0 v1 v2).lookup ("low" : Str) = some v1 := by unfold F_Wave; rw [lkm (by decide +kernel), lkh]
theorem F_Wave_put_low : putF "low" u (F_Wave v0 v1 v2) = F_Wave v0 u v2 := by unfold F_Wave; rw [ptm (by decide +kernel), pth]
theorem F_Wave_added : (F_Wave v0 v1 v2).lookup ("added" : Str) = some v2 := by unfold F_Wave; rw [lkm (by decide +kernel), lkm (by decide +kernel), lkh]
theorem F_Wave_put_added : putF "added" u (F_Wave v0 v1 v2) = F_Wave v0 v1 u := by unfold F_Wave; rw [ptm (by decide +kernel), ptm (by decide +kernel), pth]
theorem F_Wave_no_adds_at : (F_Wave v0 v1 v2).lookup ("adds_at" : Str) = none := by unfold F_Wave; rw [lkm (by decide +kernel), lkm (by decide +kernel), lkm (by decide +kernel)]; rfl
theorem F_Wave_no_adds_from : (F_Wave v0 v1 v2).lookup ("adds_from" : Str) = none := by unfold F_Wave; rw [lkm (by decide +kernel), lkm (by decide +kernel), lkm (by decide +kernel)]; rfl
theorem F_Wave_new : (putF "added" v2 (putF "low" v1 (putF "each" v0 []))) = F_Wave v0 v1 v2 := by unfold F_Wave; rw [pt0]; repeat (first | rw [pt0] | rw [ptm (by decide +kernel)])
end
/-- the attributes of a Bed -/
def F_Bed (v0 v1 : V) : List (Str × V) := [("height", v0), ("worked", v1)]
section
variable {v0 v1 u : V}
theorem F_Bed_height : (F_Bed v0 v1).lookup ("height" : Str) = some v0 := by unfold F_Bed; rw [lkh]
theorem F_Bed_put_height : putF "height" u (F_Bed v0 v1) = F_Bed u v1 := by unfold F_Bed; rw [pth]
theorem F_Bed_worked : (F_Bed v0 v1).lookup ("worked" : Str) = some v1 := by unfold F_Bed; rw [lkm (by decide +kernel), lkh]
theorem F_Bed_put_worked : putF "worked" u (F_Bed v0 v1) = F_Bed v0 u := by unfold F_Bed; rw [ptm (by decide +kernel), pth]
theorem F_Bed_new : (putF "worked" v1 (putF "height" v0 [])) = F_Bed v0 v1 := by unfold F_Bed; rw [pt0]; repeat (first | rw [pt0] | rw [ptm (by decide +kernel)])
end
/-- the attributes of a Shore -/
def F_Shore (v0 v1 v2 v3 v4 : V) : List (Str × V) := [("begun", v0), ("base", v1), ("minute", v2), ("waves", v3), ("beds", v4)]
section
variable {v0 v1 v2 v3 v4 u : V}
theorem F_Shore_begun : (F_Shore v0 v1 v2 v3 v4).lookup ("begun" : Str) = some v0 := by unfold F_Shore; rw [lkh]
theorem F_Shore_put_begun : putF "begun" u (F_Shore v0 v1 v2 v3 v4) = F_Shore u v1 v2 v3 v4 := by unfold F_Shore; rw [pth]
theorem F_Shore_base : (F_Shore v0 v1 v2 v3 v4).lookup ("base" : Str) = some v1 := by unfold F_Shore; rw [lkm (by decide +kernel), lkh]
theorem F_Shore_put_base : putF "base" u (F_Shore v0 v1 v2 v3 v4) = F_Shore v0 u v2 v3 v4 := by unfold F_Shore; rw [ptm (by decide +kernel), pth]
theorem F_Shore_minute : (F_Shore v0 v1 v2 v3 v4).lookup ("minute" : Str) = some v2 := by unfold F_Shore; rw [lkm (by decide +kernel), lkm (by decide +kernel), lkh]
theorem F_Shore_put_minute : putF "minute" u (F_Shore v0 v1 v2 v3 v4) = F_Shore v0 v1 u v3 v4 := by unfold F_Shore; rw [ptm (by decide +kernel), ptm (by decide +kernel), pth]
theorem F_Shore_waves : (F_Shore v0 v1 v2 v3 v4).lookup ("waves" : Str) = some v3 := by unfold F_Shore; rw [lkm (by decide +kernel), lkm (by decide +kernel), lkm (by decide +kernel), lkh]
theorem F_Shore_put_waves : putF "waves" u (F_Shore v0 v1 v2 v3 v4) = F_Shore v0 v1 v2 u v4 := by unfold F_Shore; rw [ptm (by decide +kernel), ptm (by decide +kernel), ptm (by decide +kernel), pth]
theorem F_Shore_beds : (F_Shore v0 v1 v2 v3 v4).lookup ("beds" : Str) = some v4 := by unfold F_Shore; rw [lkm (by decide +kernel), lkm (by decide +kernel), lkm (by decide +kernel), lkm (by decide +kernel), lkh]
theorem F_Shore_put_beds : putF "beds" u (F_Shore v0 v1 v2 v3 v4) = F_Shore v0 v1 v2 v3 u := by unfold F_Shore; rw [ptm (by decide +kernel), ptm (by decide +kernel), ptm (by decide +kernel), ptm (by decide +kernel), pth]
theorem F_Shore_no_begin_afresh : (F_Shore v0 v1 v2 v3 v4).lookup ("begin_afresh" : Str) = none := by unfold F_Shore; rw [lkm (by decide +kernel), lkm (by decide +kernel), lkm (by decide +kernel), lkm (by decide +kernel), lkm (by decide +kernel)]; rfl
theorem F_Shore_no_has_bed : (F_Shore v0 v1 v2 v3 v4).lookup ("has_bed" : Str) = none := by unfold F_Shore; rw [lkm (by decide +kernel), lkm (by decide +kernel), lkm (by decide +kernel), lkm (by decide +kernel), lkm (by decide +kernel)]; rfl
theorem F_Shore_no_has_beds : (F_Shore v0 v1 v2 v3 v4).lookup ("has_beds" : Str) = none := by unfold F_Shore; rw [lkm (by decide +kernel), lkm (by decide +kernel), lkm (by decide +kernel), lkm (by decide +kernel), lkm (by decide +kernel)]; rfl
theorem F_Shore_no_water_at : (F_Shore v0 v1 v2 v3 v4).lookup ("water_at" : Str) = none := by unfold F_Shore; rw [lkm (by decide +kernel), lkm (by decide +kernel), lkm (by decide +kernel), lkm (by decide +kernel), lkm (by decide +kernel)]; rfl
theorem F_Shore_no_waters_from : (F_Shore v0 v1 v2 v3 v4).lookup ("waters_from" : Str) = none := by unfold F_Shore; rw [lkm (by decide +kernel), lkm (by decide +kernel), lkm (by decide +kernel), lkm (by decide +kernel), lkm (by decide +kernel)]; rfl
theorem F_Shore_no_is_dry : (F_Shore v0 v1 v2 v3 v4).lookup ("is_dry" : Str) = none := by unfold F_Shore; rw [lkm (by decide +kernel), lkm (by decide +kernel), lkm (by decide +kernel), lkm (by decide +kernel), lkm (by decide +kernel)]; rfl
theorem F_Shore_new : (putF "beds" v4 (putF "waves" v3 (putF "minute" v2 (putF "base" v1 (putF "begun" v0 []))))) = F_Shore v0 v1 v2 v3 v4 := by unfold F_Shore; rw [pt0]; repeat (first | rw [pt0] | rw [ptm (by decide +kernel)])
end
/-- the attributes of a Visit -/
def F_Visit (v0 v1 v2 : V) : List (Str × V) := [("bed", v0), ("how_many", v1), ("begins", v2)]
section
variable {v0 v1 v2 u : V}
theorem F_Visit_bed : (F_Visit v0 v1 v2).lookup ("bed" : Str) = some v0 := by unfold F_Visit; rw [lkh]
theorem F_Visit_put_bed : putF "bed" u (F_Visit v0 v1 v2) = F_Visit u v1 v2 := by unfold F_Visit; rw [pth]
theorem F_Visit_how_many : (F_Visit v0 v1 v2).lookup ("how_many" : Str) = some v1 := by unfold F_Visit; rw [lkm (by decide +kernel), lkh]
theorem F_Visit_put_how_many : putF "how_many" u (F_Visit v0 v1 v2) = F_Visit v0 u v2 := by unfold F_Visit; rw [ptm (by decide +kernel), pth]
theorem F_Visit_begins : (F_Visit v0 v1 v2).lookup ("begins" : Str) = some v2 := by unfold F_Visit; rw [lkm (by decide +kernel), lkm (by decide +kernel), lkh]
theorem F_Visit_put_begins : putF "begins" u (F_Visit v0 v1 v2) = F_Visit v0 v1 u := by unfold F_Visit; rw [ptm (by decide +kernel), ptm (by decide +kernel), pth]
theorem F_Visit_new : (putF "begins" v2 (putF "how_many" v1 (putF "bed" v0 []))) = F_Visit v0 v1 v2 := by unfold F_Visit; rw [pt0]; repeat (first | rw [pt0] | rw [ptm (by decide +kernel)])
end

end Dh

end
section
set_option Elab.async false
set_option linter.all false
set_option maxRecDepth 100000
set_option maxHeartbeats 2000000
/-! ### the shore on the heap -/
namespace Dh
open PySem PySem.Spec PyProof.Rows L2
open Kv346 (Abs Wave)
/-- the addresses of a shore: the instance, its two lists, their items -/
structure Sh where
  sh : Addr
  wl : Addr
  bl : Addr
  ws : List Addr
  bs : List Addr
  as : List Addr
/-- what a change may touch, and the waves' lists -/
def Sh.fp (g : Sh) : List Addr := g.sh :: g.wl :: g.bl :: (g.bs ++ g.as)
/-- the bounds that a begun shore keeps -/
structure Good (a : Abs) : Prop where
  now : a.now ≤ 100000
  base : a.base ≤ 10000
  waves : a.waves.length ≤ 4
  beds : a.beds.length ≤ 6
  dlen : a.done.length = a.beds.length
  wv : ∀ w ∈ a.waves, 2 ≤ w.each ∧ w.each ≤ 2000 ∧ w.high ≤ 1000 ∧ w.low < w.each
/-- what a wave adds so many minutes since its lowest -/
def addL (w : Wave) : List V := tab w.each fun s => .int ((addN w.high w.each s : Nat) : Int)
def WaveAt (A : Ad) (H : Hp) (p l : Addr) (w : Wave) : Prop := (∃ dx, H p = some (.ins A.C_Wave dx (F_Wave (.int w.each) (.int w.low) (.ref l)))) ∧ H l = some (.lst (addL w))
def BedAt (A : Ad) (H : Hp) (p : Addr) (h d : Nat) : Prop := ∃ dx, H p = some (.ins A.C_Bed dx (F_Bed (.int h) (.int d)))
structure ShoreAt (A : Ad) (H : Hp) (g : Sh) (f : Bool) (a : Abs) : Prop where
  sh : ∃ dx, H g.sh = some (.ins A.C_Shore dx (F_Shore (.bl f) (.int a.base) (.int a.now) (.ref g.wl) (.ref g.bl)))
  wl : H g.wl = some (.lst (g.ws.map V.ref))
  bl : H g.bl = some (.lst (g.bs.map V.ref))
  wb : g.wl ≠ g.bl
  wlen : g.ws.length = a.waves.length
  alen : g.as.length = a.waves.length
  blen : g.bs.length = a.beds.length
  bn : g.bs.Nodup
  wv : ∀ (i : Nat) (w : Wave), a.waves[i]? = some w → ∃ p l, g.ws[i]? = some p ∧ g.as[i]? = some l ∧ WaveAt A H p l w
  bd : ∀ (i : Nat) (p : Addr), g.bs[i]? = some p → ∃ h d, a.beds[i]? = some h ∧ a.done[i]? = some d ∧ BedAt A H p h d
  ok : Good a
theorem WaveAt.same {A : Ad} {H H' : Hp} {p l : Addr} {w : Wave} (S : Same H H') (h : WaveAt A H p l w) : WaveAt A H' p l w := let ⟨⟨dx, e⟩, e2⟩ := h; ⟨⟨dx, S _ _ e⟩, S _ _ e2⟩
theorem WaveAt.kept {A : Ad} {H H' : Hp} {p l q : Addr} {w : Wave} (h : WaveAt A H p l w) (kp : ∀ b o, H b = some o → b ≠ q → H' b = some o) (n1 : p ≠ q) (n2 : l ≠ q) : WaveAt A H' p l w := let ⟨⟨dx, e⟩, e2⟩ := h; ⟨⟨dx, kp _ _ e n1⟩, kp _ _ e2 n2⟩
theorem BedAt.same {A : Ad} {H H' : Hp} {p : Addr} {h d : Nat} (S : Same H H') (q : BedAt A H p h d) : BedAt A H' p h d := let ⟨dx, e⟩ := q; ⟨dx, S _ _ e⟩
theorem addL_length (w : Wave) : (addL w).length = w.each := tab_len
theorem addL_at {w : Wave} {s : Nat} (h : s < w.each) : (addL w)[s]? = some (.int ((addN w.high w.each s : Nat) : Int)) := tab_at h
/-- a list of numbers is none of objects -/
theorem addL_ne {w : Wave} {ps : List Addr} (h : 2 ≤ w.each) : ¬ addL w = ps.map V.ref := fun e => by
  have h0 := addL_at (w := w) (s := 0) (by omega)
  rw [e, List.getElem?_map] at h0
  cases z : ps[0]? with
  | none => rw [z] at h0; cases h0
  | some p => rw [z] at h0; cases h0
section
variable {A : Ad} {H H' : Hp} {g : Sh} {f : Bool} {a : Abs}
theorem ShoreAt.same (S : Same H H') (h : ShoreAt A H g f a) : ShoreAt A H' g f a :=
  ⟨let ⟨dx, e⟩ := h.sh; ⟨dx, S _ _ e⟩, S _ _ h.wl, S _ _ h.bl, h.wb, h.wlen, h.alen, h.blen, h.bn,
    fun i w q => let ⟨p, l, e1, e2, z⟩ := h.wv i w q; ⟨p, l, e1, e2, z.same S⟩, fun i p q => let ⟨x, d, e1, e2, z⟩ := h.bd i p q; ⟨x, d, e1, e2, z.same S⟩, h.ok⟩
theorem ShoreAt.wave (h : ShoreAt A H g f a) {i : Nat} {p : Addr} (e : g.ws[i]? = some p) : ∃ w l, a.waves[i]? = some w ∧ g.as[i]? = some l ∧ WaveAt A H p l w := by
  have hi : i < a.waves.length := by rw [← h.wlen]; exact (List.getElem?_eq_some_iff.mp e).1
  obtain ⟨p', l, e1, e2, z⟩ := h.wv i _ (List.getElem?_eq_getElem hi)
  rw [e] at e1
  cases e1
  exact ⟨_, l, List.getElem?_eq_getElem hi, e2, z⟩
theorem ShoreAt.bed (h : ShoreAt A H g f a) {b : Nat} (hb : b < a.beds.length) : ∃ p, g.bs[b]? = some p ∧ BedAt A H p (a.bed b) (a.done.getD b 0) := by
  have hi : b < g.bs.length := by rw [h.blen]; exact hb
  obtain ⟨x, d, e1, e2, z⟩ := h.bd b _ (List.getElem?_eq_getElem hi)
  refine ⟨_, List.getElem?_eq_getElem hi, ?_⟩
  have q1 : a.bed b = x := by unfold Abs.bed; rw [List.getD_eq_getElem?_getD, e1]; rfl
  have q2 : a.done.getD b 0 = d := by rw [List.getD_eq_getElem?_getD, e2]; rfl
  rw [q1, q2]
  exact z
theorem fW_B {x y z u v : V} : ¬ F_Wave x y z = F_Bed u v := fun e => by
  have := congrArg List.length e
  exact absurd (show (3 : Nat) = 2 from this) (by decide)
theorem fS_B {x y z r s u v : V} : ¬ F_Shore x y z r s = F_Bed u v := fun e => by
  have := congrArg List.length e
  exact absurd (show (5 : Nat) = 2 from this) (by decide)
theorem fS_W {x y z r s t u v : V} : ¬ F_Shore x y z r s = F_Wave t u v := fun e => by
  have := congrArg List.length e
  exact absurd (show (5 : Nat) = 3 from this) (by decide)
/-- a bed's object is none of the others -/
theorem ShoreAt.bed_ne (h : ShoreAt A H g f a) {p : Addr} {x d : Nat} (z : BedAt A H p x d) : g.sh ≠ p ∧ g.wl ≠ p ∧ g.bl ≠ p ∧ ∀ q l w, WaveAt A H q l w → q ≠ p ∧ l ≠ p := by
  obtain ⟨dx, z⟩ := z
  obtain ⟨ds, s⟩ := h.sh
  refine ⟨ne_of s z (by intro q; injection q with _ _ q; exact fS_B q), ne_of h.wl z (by intro q; cases q), ne_of h.bl z (by intro q; cases q), ?_⟩
  rintro q l w ⟨⟨dq, hq⟩, hl⟩
  exact ⟨ne_of hq z (by intro q; injection q with _ _ q; exact fW_B q), ne_of hl z (by intro q; cases q)⟩
/-- a bed changes -/
theorem ShoreAt.set_bed (h : ShoreAt A H g f a) {i : Nat} {p : Addr} {x y d e : Nat} (hp : g.bs[i]? = some p) (z : BedAt A H p x d) (z' : BedAt A H' p y e) (kp : ∀ b o, H b = some o → b ≠ p → H' b = some o) :
    ShoreAt A H' g f { a with beds := a.beds.set i y, done := a.done.set i e } := by
  obtain ⟨n1, n2, n3, n4⟩ := h.bed_ne z
  obtain ⟨ds, s⟩ := h.sh
  refine ⟨⟨ds, kp _ _ s n1⟩, kp _ _ h.wl n2, kp _ _ h.bl n3, h.wb, h.wlen, h.alen, by rw [h.blen]; exact (List.length_set).symm, h.bn, ?_, ?_, ?_⟩
  · intro j w hw
    obtain ⟨q, l, e1, e2, z⟩ := h.wv j w hw
    exact ⟨q, l, e1, e2, z.kept kp (n4 q l w z).1 (n4 q l w z).2⟩
  · intro j q hq
    by_cases hj : j = i
    · subst hj
      have eq : q = p := Option.some.inj (hq.symm.trans hp)
      subst eq
      have l1 : j < a.beds.length := by rw [← h.blen]; exact (List.getElem?_eq_some_iff.mp hp).1
      have l2 : j < a.done.length := by rw [h.ok.dlen]; exact l1
      exact ⟨y, e, List.getElem?_set_self l1, List.getElem?_set_self l2, z'⟩
    · obtain ⟨x', d', e1, e2, dq, e3⟩ := h.bd j q hq
      have nq : q ≠ p := fun c => hj (nd_ix h.bn hq (by rw [c]; exact hp))
      exact ⟨x', d', by show (a.beds.set i y)[j]? = _; rw [List.getElem?_set_ne (fun c => hj c.symm)]; exact e1, by show (a.done.set i e)[j]? = _; rw [List.getElem?_set_ne (fun c => hj c.symm)]; exact e2, dq, kp _ _ e3 nq⟩
  · exact ⟨h.ok.now, h.ok.base, h.ok.waves, by show (a.beds.set i y).length ≤ 6; rw [List.length_set]; exact h.ok.beds, by show (a.done.set i e).length = (a.beds.set i y).length; rw [List.length_set, List.length_set]; exact h.ok.dlen, h.ok.wv⟩
/-- the shore's object is none of the others -/
theorem ShoreAt.sh_ne (h : ShoreAt A H g f a) : g.wl ≠ g.sh ∧ g.bl ≠ g.sh ∧ (∀ q l w, WaveAt A H q l w → q ≠ g.sh ∧ l ≠ g.sh) ∧ ∀ q x d, BedAt A H q x d → q ≠ g.sh := by
  obtain ⟨ds, s⟩ := h.sh
  refine ⟨ne_of h.wl s (by intro q; cases q), ne_of h.bl s (by intro q; cases q), ?_, ?_⟩
  · rintro q l w ⟨⟨dq, hq⟩, hl⟩
    exact ⟨(ne_of s hq (by intro q; injection q with _ _ q; exact fS_W q)).symm, ne_of hl s (by intro q; cases q)⟩
  · rintro q x d ⟨dq, hq⟩
    exact (ne_of s hq (by intro q; injection q with _ _ q; exact fS_B q)).symm
/-- the minute changes -/
theorem ShoreAt.set_now (h : ShoreAt A H g f a) {n : Nat} (hn : n ≤ 100000) (e : ∃ dx, H' g.sh = some (.ins A.C_Shore dx (F_Shore (.bl f) (.int a.base) (.int n) (.ref g.wl) (.ref g.bl)))) (kp : ∀ b o, H b = some o → b ≠ g.sh → H' b = some o) :
    ShoreAt A H' g f { a with now := n } := by
  obtain ⟨n1, n2, n3, n4⟩ := h.sh_ne
  refine ⟨e, kp _ _ h.wl n1, kp _ _ h.bl n2, h.wb, h.wlen, h.alen, h.blen, h.bn, ?_, ?_, ⟨hn, h.ok.base, h.ok.waves, h.ok.beds, h.ok.dlen, h.ok.wv⟩⟩
  · intro j w hw
    obtain ⟨q, l, e1, e2, z⟩ := h.wv j w hw
    exact ⟨q, l, e1, e2, z.kept kp (n3 q l w z).1 (n3 q l w z).2⟩
  · intro j q hq
    obtain ⟨x', d', e1, e2, dq, e3⟩ := h.bd j q hq
    exact ⟨x', d', e1, e2, dq, kp _ _ e3 (n4 q _ _ ⟨dq, e3⟩)⟩
/-- a wave's objects are not the shore's lists -/
theorem ShoreAt.wv_ne (h : ShoreAt A H g f a) {i : Nat} {w : Wave} {p l : Addr} (hw : a.waves[i]? = some w) (z : WaveAt A H p l w) : (p ≠ g.wl ∧ l ≠ g.wl) ∧ p ≠ g.bl ∧ l ≠ g.bl := by
  have h2 := (h.ok.wv w (List.mem_of_getElem? hw)).1
  obtain ⟨⟨dx, e⟩, e2⟩ := z
  exact ⟨⟨ne_of e h.wl (by intro q; cases q), ne_of e2 h.wl (by intro q; injection q with q; exact addL_ne h2 q)⟩, ne_of e h.bl (by intro q; cases q), ne_of e2 h.bl (by intro q; injection q with q; exact addL_ne h2 q)⟩
/-- a wave more -/
theorem ShoreAt.add_wave (h : ShoreAt A H g f a) {p l : Addr} {w : Wave} (hl : a.waves.length < 4) (hw : 2 ≤ w.each ∧ w.each ≤ 2000 ∧ w.high ≤ 1000 ∧ w.low < w.each) (S : Same H H1) (z : WaveAt A H1 p l w) :
    ShoreAt A (upd H1 g.wl (.lst (g.ws.map V.ref ++ [.ref p]))) { g with ws := g.ws ++ [p], as := g.as ++ [l] } f { a with waves := a.waves ++ [w] } := by
  have h1 := h.same S
  obtain ⟨ds, s⟩ := h1.sh
  have k : ∀ b o, H1 b = some o → b ≠ g.wl → upd H1 g.wl (.lst (g.ws.map V.ref ++ [.ref p])) b = some o := fun b o e n => by rw [upd_ne n]; exact e
  refine ⟨⟨ds, k _ _ s (ne_of s h1.wl (by intro q; cases q))⟩, by show upd H1 g.wl _ g.wl = _; rw [upd_same, List.map_append]; rfl, k _ _ h1.bl h1.wb.symm, h.wb, by show (g.ws ++ [p]).length = (a.waves ++ [w]).length; rw [List.length_append, List.length_append, h.wlen]; rfl, by show (g.as ++ [l]).length = (a.waves ++ [w]).length; rw [List.length_append, List.length_append, h.alen]; rfl, h.blen, h.bn, ?_, ?_, ?_⟩
  · intro j w' hw'
    have hw' : (a.waves ++ [w])[j]? = some w' := hw'
    show ∃ p' l', (g.ws ++ [p])[j]? = some p' ∧ (g.as ++ [l])[j]? = some l' ∧ _
    by_cases hj : j < a.waves.length
    · rw [List.getElem?_append_left hj] at hw'
      obtain ⟨q, l', e1, e2, z'⟩ := h1.wv j w' hw'
      obtain ⟨⟨n1, n2⟩, _⟩ := h1.wv_ne hw' z'
      exact ⟨q, l', by rw [List.getElem?_append_left (by rw [h.wlen]; exact hj)]; exact e1, by rw [List.getElem?_append_left (by rw [h.alen]; exact hj)]; exact e2, z'.kept k n1 n2⟩
    · rw [List.getElem?_append_right (by omega)] at hw'
      have hj0 : j - a.waves.length = 0 := by
        have := (List.getElem?_eq_some_iff.mp hw').1
        simp at this
        omega
      rw [hj0] at hw'
      have eq : w = w' := Option.some.inj hw'
      subst eq
      obtain ⟨⟨dz, z1⟩, z2⟩ := id z
      refine ⟨p, l, by rw [List.getElem?_append_right (by rw [h.wlen]; omega), h.wlen, hj0]; rfl, by rw [List.getElem?_append_right (by rw [h.alen]; omega), h.alen, hj0]; rfl, z.kept k (ne_of z1 h1.wl (by intro q; cases q)) (ne_of z2 h1.wl (by intro q; injection q with q; exact addL_ne hw.1 q))⟩
  · intro j q hq
    obtain ⟨x', d', e1, e2, dq, e3⟩ := h1.bd j q hq
    exact ⟨x', d', e1, e2, dq, k _ _ e3 (ne_of e3 h1.wl (by intro q; cases q))⟩
  · refine ⟨h.ok.now, h.ok.base, by show (a.waves ++ [w]).length ≤ 4; rw [List.length_append]; simp; omega, h.ok.beds, h.ok.dlen, fun w' hw' => ?_⟩
    rcases List.mem_append.mp hw' with m | m
    · exact h.ok.wv w' m
    · have : w' = w := by simpa using m
      subst this
      exact hw
/-- a bed more -/
theorem ShoreAt.add_bed (h : ShoreAt A H g f a) {p : Addr} {x : Nat} (hl : a.beds.length < 6) (S : Same H H1) (hp : H p = none) (z : BedAt A H1 p x 0) :
    ShoreAt A (upd H1 g.bl (.lst (g.bs.map V.ref ++ [.ref p]))) { g with bs := g.bs ++ [p] } f { a with beds := a.beds ++ [x], done := a.done ++ [0] } := by
  have h1 := h.same S
  obtain ⟨ds, s⟩ := h1.sh
  have k : ∀ b o, H1 b = some o → b ≠ g.bl → upd H1 g.bl (.lst (g.bs.map V.ref ++ [.ref p])) b = some o := fun b o e n => by rw [upd_ne n]; exact e
  obtain ⟨dz, z⟩ := z
  refine ⟨⟨ds, k _ _ s (ne_of s h1.bl (by intro q; cases q))⟩, k _ _ h1.wl h1.wb, by show upd H1 g.bl _ g.bl = _; rw [upd_same, List.map_append]; rfl, h.wb, h.wlen, h.alen, by show (g.bs ++ [p]).length = (a.beds ++ [x]).length; rw [List.length_append, List.length_append, h.blen]; rfl, ?_, ?_, ?_, ?_⟩
  · show (g.bs ++ [p]).Nodup
    rw [List.nodup_append]
    refine ⟨h.bn, by simp, ?_⟩
    intro b hb c hc e
    have : c = p := by simpa using hc
    subst this
    subst e
    obtain ⟨i, hi, e⟩ := List.getElem_of_mem hb
    obtain ⟨_, _, _, _, _, e3⟩ := h.bd i b (by rw [List.getElem?_eq_getElem hi, e])
    rw [hp] at e3
    cases e3
  · intro j w hw
    obtain ⟨q, l, e1, e2, z'⟩ := h1.wv j w hw
    obtain ⟨_, n1, n2⟩ := h1.wv_ne hw z'
    exact ⟨q, l, e1, e2, z'.kept k n1 n2⟩
  · intro j q hq
    have hq : (g.bs ++ [p])[j]? = some q := hq
    show ∃ x' d', (a.beds ++ [x])[j]? = some x' ∧ (a.done ++ [0])[j]? = some d' ∧ _
    by_cases hj : j < g.bs.length
    · rw [List.getElem?_append_left hj] at hq
      obtain ⟨x', d', e1, e2, dw, e3⟩ := h1.bd j q hq
      exact ⟨x', d', by rw [List.getElem?_append_left (by rw [← h.blen]; exact hj)]; exact e1, by rw [List.getElem?_append_left (by rw [h.ok.dlen, ← h.blen]; exact hj)]; exact e2, dw, k _ _ e3 (ne_of e3 h1.bl (by intro q; cases q))⟩
    · rw [List.getElem?_append_right (by omega)] at hq
      have hj0 : j - g.bs.length = 0 := by
        have := (List.getElem?_eq_some_iff.mp hq).1
        simp at this
        omega
      rw [hj0] at hq
      have eq : p = q := Option.some.inj hq
      subst eq
      have j1 : j - a.beds.length = 0 := by rw [← h.blen]; exact hj0
      have j2 : j - a.done.length = 0 := by rw [h.ok.dlen, ← h.blen]; exact hj0
      have l1 : a.beds.length ≤ j := by rw [← h.blen]; omega
      exact ⟨x, 0, by rw [List.getElem?_append_right l1, j1]; rfl, by rw [List.getElem?_append_right (by rw [h.ok.dlen]; exact l1), j2]; rfl, dz, k _ _ z (ne_of z h1.bl (by intro q; cases q))⟩
  · exact ⟨h.ok.now, h.ok.base, h.ok.waves, by show (a.beds ++ [x]).length ≤ 6; rw [List.length_append]; simp; omega, by show (a.done ++ [0]).length = (a.beds ++ [x]).length; rw [List.length_append, List.length_append, h.ok.dlen]; rfl, h.ok.wv⟩
/-- begun afresh -/
theorem ShoreAt.fresh {b : Nat} {sh wl bl : Addr} (hb : b ≤ 10000) (h1 : ∃ dx, H sh = some (.ins A.C_Shore dx (F_Shore (.bl f) (.int b) (.int 0) (.ref wl) (.ref bl)))) (h2 : H wl = some (.lst [])) (h3 : H bl = some (.lst [])) (n : wl ≠ bl) :
    ShoreAt A H ⟨sh, wl, bl, [], [], []⟩ f (Kv346.begun b) :=
  ⟨h1, h2, h3, n, rfl, rfl, rfl, List.nodup_nil, fun i p q => by simp [Kv346.begun] at q, fun i p q => by simp at q, ⟨Nat.zero_le _, hb, Nat.zero_le _, Nat.zero_le _, rfl, fun w hw => by cases hw⟩⟩
end
/-! ### what a call promises -/
/-- a new list of numbers, all else as it was -/
def Looks (H : Hp) (out : List Int) (Q : VK) : Prop := ∀ (H' : Hp) (q : Addr), Same H H' → H q = none → H' q = some (.lst (out.map V.int)) → Q (.ref q) H'
theorem looks_new {H H1 : Hp} {out : List Int} {xs : List V} {Q : VK} (k : Looks H out Q) (S : Same H H1) (e : xs = out.map V.int) {p : Addr} (hp : H1 p = none) : Q (.ref p) (upd H1 p (.lst xs)) :=
  k _ p (S.new hp) (S.free hp) (by rw [e]; exact upd_same)
/-- of what was tracked outside the shore nothing changes, and it stays outside -/
def Keeps (H H' : Hp) (g g' : Sh) : Prop := ∀ b o, H b = some o → b ∉ g.fp → H' b = some o ∧ b ∉ g'.fp
theorem Keeps.of_same {H H' : Hp} {g : Sh} (S : Same H H') : Keeps H H' g g := fun b o e n => ⟨S b o e, n⟩
theorem Keeps.trans {H H1 H2 : Hp} {g g1 g2 : Sh} (h : Keeps H H1 g g1) (h' : Keeps H1 H2 g1 g2) : Keeps H H2 g g2 := fun b o e n => let ⟨e1, n1⟩ := h b o e n; h' b o e1 n1
/-- a new list of numbers, and the shore in its new state -/
def Changes (A : Ad) (H : Hp) (g : Sh) (f' : Bool) (a' : Abs) (out : List Int) (Q : VK) : Prop := ∀ (H' : Hp) (g' : Sh) (q : Addr), ShoreAt A H' g' f' a' → g'.sh = g.sh → Keeps H H' g g' → H q = none → q ∉ g'.fp → H' q = some (.lst (out.map V.int)) → Q (.ref q) H'
theorem mem_fp {g : Sh} {b : Addr} : b ∈ g.fp ↔ b = g.sh ∨ b = g.wl ∨ b = g.bl ∨ b ∈ g.bs ∨ b ∈ g.as := by unfold Sh.fp; simp
section
variable {A : Ad} {H H' : Hp} {g : Sh} {f : Bool} {a : Abs}
/-- a shore's objects are tracked -/
theorem ShoreAt.tracked (h : ShoreAt A H g f a) {b : Addr} (m : b ∈ g.fp) : ∃ o, H b = some o ∧ ∀ r u, o ≠ .frz r u := by
  rcases mem_fp.mp m with rfl | rfl | rfl | m | m
  · obtain ⟨dx, e⟩ := h.sh
    exact ⟨_, e, fun r u q => by cases q⟩
  · exact ⟨_, h.wl, fun r u q => by cases q⟩
  · exact ⟨_, h.bl, fun r u q => by cases q⟩
  · obtain ⟨i, hi, e⟩ := List.getElem_of_mem m
    obtain ⟨_, _, _, _, dx, e3⟩ := h.bd i b (by rw [List.getElem?_eq_getElem hi, e])
    exact ⟨_, e3, fun r u q => by cases q⟩
  · obtain ⟨i, hi, e⟩ := List.getElem_of_mem m
    obtain ⟨p, l, _, e2, _, e3⟩ := h.wv i _ (List.getElem?_eq_getElem (by rw [← h.alen]; exact hi))
    have e4 : l = b := by rw [List.getElem?_eq_getElem hi, e] at e2; exact (Option.some.inj e2).symm
    rw [e4] at e3
    exact ⟨_, e3, fun r u q => by cases q⟩
theorem ShoreAt.out (h : ShoreAt A H g f a) {b : Addr} (n : H b = none) : b ∉ g.fp := fun m => by
  obtain ⟨o, e, _⟩ := h.tracked m
  rw [n] at e
  cases e
/-- what only looks is a change to the same state -/
theorem changes_of_looks {out : List Int} {Q : VK} (S : ShoreAt A H g f a) (k : Changes A H g f a out Q) : Looks H out Q := fun H' q s n e => k H' g q (S.same s) rfl (.of_same s) n (S.out n) e
theorem changes_new {H1 : Hp} {g1 : Sh} {f' : Bool} {a' : Abs} {out : List Int} {xs : List V} {Q : VK} (k : Changes A H g f' a' out Q) (S : ShoreAt A H1 g1 f' a') (es : g1.sh = g.sh) (kp : Keeps H H1 g g1) (fr : ∀ b, H1 b = none → H b = none) (e : xs = out.map V.int) {p : Addr} (hp : H1 p = none) :
    Q (.ref p) (upd H1 p (.lst xs)) :=
  k _ g1 p (S.same (Same.rfl.new hp)) es (fun b o q n => let ⟨e1, n1⟩ := kp b o q n; ⟨by rw [upd_ne (ne_of_none e1 hp)]; exact e1, n1⟩) (fr p hp) (S.out hp) (by rw [e]; exact upd_same)
end
end Dh

end
section
set_option Elab.async false
set_option linter.all false
set_option maxRecDepth 100000
set_option maxHeartbeats 2000000
/-! ### limits, waves, beds, the shore, dryness -/
namespace Dh
open PySem PySem.Spec PyProof.Rows L2
open Kv346 (Abs Wave)
def sp_is_minute : Sp := fun vs H Q _ => ∃ t : Nat, vs = [.int t] ∧ Q (.bl (decide (t ≤ 100000))) H
def sp_is_how_many : Sp := fun vs H Q _ => ∃ n : Nat, vs = [.int n] ∧ Q (.bl (decide (1 ≤ n ∧ n ≤ 1000))) H
def sp_is_few : Sp := fun vs H Q _ => ∃ n : Nat, vs = [.int n] ∧ Q (.bl (decide (1 ≤ n ∧ n ≤ 300))) H
def sp_is_at_a_bed : Sp := fun vs H Q _ => ∃ n : Nat, vs = [.int n] ∧ Q (.bl (decide (1 ≤ n ∧ n ≤ 60))) H
/-- numbers as the program has them -/
abbrev nV (l : List Nat) : List V := l.map fun b => V.int (b : Nat)
def sp_are_different (K : PySem.W.Frag) : Sp := fun vs H Q _ => ∃ (q : Addr) (l : List Nat), vs = [.ref q] ∧ SqL K H q (nV l) ∧ l.length ≤ 100 ∧ ∀ H' : Hp, Same H H' → Q (.bl (decide l.Nodup)) H'
def sp_is_bed_height : Sp := fun vs H Q _ => ∃ h : Nat, vs = [.int h] ∧ Q (.bl (decide (h ≤ 20000))) H
def sp_is_wave : Sp := fun vs H Q _ => ∃ e h l : Nat, vs = [.int e, .int h, .int l] ∧ Q (.bl (decide (2 ≤ e ∧ e ≤ 2000 ∧ 1 ≤ h ∧ h ≤ 1000 ∧ l < e))) H
def sp_Wave_init (A : Ad) : Sp := fun vs H Q _ => ∃ (p dx : Addr) (e h l : Nat), vs = [.ref p, .int e, .int h, .int l] ∧ H p = some (.ins A.C_Wave dx []) ∧ (2 ≤ e ∧ e ≤ 2000 ∧ h ≤ 1000) ∧
  ∀ (H' : Hp) (la : Addr), WaveAt A H' p la ⟨e, h, l⟩ → H la = none → (∀ b o, H b = some o → b ≠ p → H' b = some o) → Q .non H'
def OkW (w : Wave) : Prop := 2 ≤ w.each ∧ w.each ≤ 2000 ∧ w.high ≤ 1000 ∧ w.low < w.each
def sp_Wave_adds_at (A : Ad) : Sp := fun vs H Q _ => ∃ (p la : Addr) (w : Wave) (t : Nat), vs = [.ref p, .int t] ∧ WaveAt A H p la w ∧ OkW w ∧ Q (.int (w.adds t : Nat)) H
/-- a new list, all else as it was -/
def Gives (H : Hp) (xs : List V) (Q : VK) : Prop := ∀ (H' : Hp) (q : Addr), Same H H' → H q = none → H' q = some (.lst xs) → Q (.ref q) H'
def sp_Wave_adds_from (A : Ad) : Sp := fun vs H Q _ => ∃ (p la : Addr) (w : Wave) (t n : Nat), vs = [.ref p, .int t, .int n] ∧ WaveAt A H p la w ∧ OkW w ∧ n ≤ 10000 ∧ Gives H (tab n fun k => .int (w.adds (t + k) : Nat)) Q
def sp_Bed_init (A : Ad) : Sp := fun vs H Q _ => ∃ (p dx : Addr) (h : Nat), vs = [.ref p, .int h] ∧ H p = some (.ins A.C_Bed dx []) ∧
  ∀ H' : Hp, BedAt A H' p h 0 → (∀ b o, H b = some o → b ≠ p → H' b = some o) → Q .non H'
/-- a shore without waves and beds -/
def Bare (A : Ad) (H H' : Hp) (p : Addr) (f : Bool) (b : Nat) : Prop := ∃ wl bl, (∃ dx, H' p = some (.ins A.C_Shore dx (F_Shore (.bl f) (.int b) (.int 0) (.ref wl) (.ref bl)))) ∧ H' wl = some (.lst []) ∧ H' bl = some (.lst []) ∧ wl ≠ bl ∧
  (∀ c o, H c = some o → c ≠ p → H' c = some o ∧ c ≠ wl ∧ c ≠ bl) ∧ ∀ c, H' c = none → H c = none
def sp_Shore_init (A : Ad) : Sp := fun vs H Q _ => ∃ (p dx : Addr), vs = [.ref p] ∧ H p = some (.ins A.C_Shore dx []) ∧ ∀ H' : Hp, Bare A H H' p false 0 → Q .non H'
def sp_Shore_begin_afresh (A : Ad) : Sp := fun vs H Q _ => ∃ (p dx : Addr) (v0 v1 v2 v3 v4 : V) (b : Nat), vs = [.ref p, .int b] ∧ H p = some (.ins A.C_Shore dx (F_Shore v0 v1 v2 v3 v4)) ∧ ∀ H' : Hp, Bare A H H' p true b → Q .non H'
def sp_Shore_has_bed (A : Ad) : Sp := fun vs H Q _ => ∃ (f : Bool) (g : Sh) (a : Abs) (b : Nat), vs = [.ref g.sh, .int b] ∧ ShoreAt A H g f a ∧ Q (.bl (decide (b < a.beds.length))) H
def sp_Shore_has_beds (K : PySem.W.Frag) (A : Ad) : Sp := fun vs H Q _ => ∃ (f : Bool) (g : Sh) (a : Abs) (q : Addr) (l : List Nat), vs = [.ref g.sh, .ref q] ∧ ShoreAt A H g f a ∧ SqL K H q (nV l) ∧ l.length ≤ 100 ∧ ∀ H' : Hp, Same H H' → Q (.bl (l.all fun b => decide (b < a.beds.length))) H'
def sp_Shore_waters_from (A : Ad) : Sp := fun vs H Q _ => ∃ (f : Bool) (g : Sh) (a : Abs) (t n : Nat), vs = [.ref g.sh, .int t, .int n] ∧ ShoreAt A H g f a ∧ n ≤ 10000 ∧ Gives H (tab n fun k => .int (a.height (t + k) : Nat)) Q
def sp_Shore_water_at (A : Ad) : Sp := fun vs H Q _ => ∃ (f : Bool) (g : Sh) (a : Abs) (t : Nat), vs = [.ref g.sh, .int t] ∧ ShoreAt A H g f a ∧ Q (.int (a.height t : Nat)) H
def sp_Shore_is_dry (A : Ad) : Sp := fun vs H Q _ => ∃ (f : Bool) (g : Sh) (a : Abs) (b t : Nat), vs = [.ref g.sh, .int b, .int t] ∧ ShoreAt A H g f a ∧ b < a.beds.length ∧ Q (.bl (a.dry b t)) H
def sp_dry_minutes_from (A : Ad) : Sp := fun vs H Q _ => ∃ (f : Bool) (g : Sh) (a : Abs) (b t m : Nat), vs = [.ref g.sh, .int b, .int t, .int m] ∧ ShoreAt A H g f a ∧ b < a.beds.length ∧ Q (.int (run (a.dry b) t m : Nat)) H
def oV : Option Nat → V
  | none => .non
  | some s => .int (s : Nat)
def sp_first_minute (A : Ad) : Sp := fun vs H Q _ => ∃ (f : Bool) (g : Sh) (a : Abs) (b t : Nat) (d : Bool), vs = [.ref g.sh, .int b, .int t, .bl d] ∧ ShoreAt A H g f a ∧ b < a.beds.length ∧ t ≤ 1000000 ∧ Q (oV (Kv346.firstOf t fun s => a.dry b s == d)) H
/-- a list of pairs -/
structure PairsAt (H : Hp) (q : Addr) (l : List (Nat × Nat)) (ts : List Addr) : Prop where
  lst : H q = some (.lst (ts.map V.ref))
  len : ts.length = l.length
  at_ : ∀ (i : Nat) (p : Addr), ts[i]? = some p → ∃ x, l[i]? = some x ∧ H p = some (.tup [.int (x.1 : Nat), .int (x.2 : Nat)])
def sp_dry_stretches (A : Ad) : Sp := fun vs H Q _ => ∃ (f : Bool) (g : Sh) (a : Abs) (b t n : Nat), vs = [.ref g.sh, .int b, .int t, .int n] ∧ ShoreAt A H g f a ∧ b < a.beds.length ∧ n ≤ 1000 ∧
  ∀ (H' : Hp) (q : Addr) (ts : List Addr), Same H H' → H q = none → PairsAt H' q (a.stretches b t n none) ts → Q (.ref q) H'
section
variable {P : Program} {w : World} {K : PySem.W.Frag} {mg : Str → Option Value} {base : Heap} {A : Ad}
theorem ok_is_minute (T : Tx K mg A) : FnOk P w K mg base CX0 1 A.a_is_minute A.d_is_minute ["minute"] sp_is_minute := by
  refine T.is_minute.fn.ok sc_is_minute (fun vs H Q E h => ?_) (fun cdv Ar outer s H vs Q E hr h => ?_)
  · obtain ⟨t, rfl, _⟩ := h
    rfl
  · obtain ⟨t, rfl, k⟩ := h
    refine ⟨_, (pss_one (ps_ret (pe_chain op_le op_le pe_int (pv 0) (pe_gi T.g_LAST_MINUTE rfl)))), ?_⟩
    exact ⟨_, rfl, _, _, rfl, rfl, _, rfl, ifd (fun c => ⟨_, _, rfl, rfl, bE k (by omega)⟩) (fun c => absurd (Int.natCast_nonneg t) c)⟩
theorem ok_is_how_many (T : Tx K mg A) : FnOk P w K mg base CX0 1 A.a_is_how_many A.d_is_how_many ["minutes"] sp_is_how_many := by
  refine T.is_how_many.fn.ok sc_is_how_many (fun vs H Q E h => ?_) (fun cdv Ar outer s H vs Q E hr h => ?_)
  · obtain ⟨t, rfl, _⟩ := h
    rfl
  · obtain ⟨t, rfl, k⟩ := h
    refine ⟨_, (pss_one (ps_ret (pe_chain op_le op_le pe_int (pv 0) (pe_gi T.g_MOST_MINUTES rfl)))), ?_⟩
    exact ⟨_, rfl, _, _, rfl, rfl, _, rfl, ifd (fun c => ⟨_, _, rfl, rfl, bE k (by omega)⟩) (fun c => bF k (by omega))⟩
theorem ok_is_few (T : Tx K mg A) : FnOk P w K mg base CX0 1 A.a_is_few A.d_is_few ["minutes"] sp_is_few := by
  refine T.is_few.fn.ok sc_is_few (fun vs H Q E h => ?_) (fun cdv Ar outer s H vs Q E hr h => ?_)
  · obtain ⟨t, rfl, _⟩ := h
    rfl
  · obtain ⟨t, rfl, k⟩ := h
    refine ⟨_, (pss_one (ps_ret (pe_chain op_le op_le pe_int (pv 0) (pe_gi T.g_MOST_OF_FEW_MINUTES rfl)))), ?_⟩
    exact ⟨_, rfl, _, _, rfl, rfl, _, rfl, ifd (fun c => ⟨_, _, rfl, rfl, bE k (by omega)⟩) (fun c => bF k (by omega))⟩
theorem ok_is_at_a_bed (T : Tx K mg A) : FnOk P w K mg base CX0 1 A.a_is_at_a_bed A.d_is_at_a_bed ["minutes"] sp_is_at_a_bed := by
  refine T.is_at_a_bed.fn.ok sc_is_at_a_bed (fun vs H Q E h => ?_) (fun cdv Ar outer s H vs Q E hr h => ?_)
  · obtain ⟨t, rfl, _⟩ := h
    rfl
  · obtain ⟨t, rfl, k⟩ := h
    refine ⟨_, (pss_one (ps_ret (pe_chain op_le op_le pe_int (pv 0) (pe_gi T.g_MOST_MINUTES_AT_A_BED rfl)))), ?_⟩
    exact ⟨_, rfl, _, _, rfl, rfl, _, rfl, ifd (fun c => ⟨_, _, rfl, rfl, bE k (by omega)⟩) (fun c => bF k (by omega))⟩
theorem nV_int (l : List Nat) : nV l = (l.map fun b => ((b : Nat) : Int)).map V.int := by unfold nV; rw [List.map_map]; rfl
theorem nV_at {l : List Nat} {i : Nat} {x : V} (h : (nV l)[i]? = some x) : ∃ b, l[i]? = some b ∧ x = .int (b : Nat) := by
  rw [List.getElem?_map] at h
  cases e : l[i]? with
  | none => rw [e] at h; cases h
  | some b => rw [e] at h; exact ⟨b, rfl, (Option.some.inj h).symm⟩
theorem nd_int (l : List Nat) : (l.map fun b => ((b : Nat) : Int)).Nodup ↔ l.Nodup := by
  constructor
  · intro h
    exact List.Pairwise.of_map _ (fun a b q z => q (by rw [z])) h
  · intro h
    exact List.Pairwise.map _ (fun a b q z => q (Int.ofNat.inj z)) h
theorem ok_are_different (T : Tx K mg A) : FnOk P w K mg base CX0 1 A.a_are_different A.d_are_different ["beds"] (sp_are_different K) := by
  refine T.are_different.fn.ok sc_are_different (fun vs H Q E h => ?_) (fun cdv Ar outer s H vs Q E hr h => ?_)
  · obtain ⟨q, l, rfl, _⟩ := h
    rfl
  · obtain ⟨q, l, rfl, hq, hl, k⟩ := h
    refine ⟨_, (pss_one (ps_ret (pe_cmpR op_eq (pe_callB call_lenS (by rfl) T.n_len PySem.boot_len (pa_cons (pe_callTy (call_setL rfl) (by rfl) T.n_set PyProof.Rows.boot_set (pa_cons (pv 0) pa_nil)) pa_nil)) (pe_callB call_len_seq (by rfl) T.n_len PySem.boot_len (pa_cons (pv 0) pa_nil)) (nomark _)))), ?_⟩
    refine ⟨_, rfl, q, l.map fun b => ((b : Nat) : Int), rfl, (by rw [← nV_int]; exact hq), (by rw [List.length_map]; exact Nat.lt_of_le_of_lt (Nat.succ_le_succ hl) (by decide)), fun p hp => ?_⟩
    refine ⟨p, _, _, rfl, upd_same, ?_⟩
    have SH : Same H (upd H p (.set (fun k => (dd (l.map fun b => ((b : Nat) : Int))).any (· == k)) (dd (l.map fun b => ((b : Nat) : Int))).length)) := Same.rfl.new hp
    have hq' := SqL.same hq SH
    refine ⟨_, rfl, q, _, rfl, .inl hq', rfl, ?_⟩
    refine bE (k _ SH) ?_
    rw [List.length_map, ← nd_int, ← dd_nodup, List.length_map]
    constructor
    · intro z
      exact Int.ofNat.inj (V.int.inj z)
    · intro z
      rw [z]
theorem ok_is_bed_height (T : Tx K mg A) : FnOk P w K mg base CX0 1 A.a_is_bed_height A.d_is_bed_height ["height"] sp_is_bed_height := by
  refine T.is_bed_height.fn.ok sc_is_bed_height (fun vs H Q E h => ?_) (fun cdv Ar outer s H vs Q E hr h => ?_)
  · obtain ⟨t, rfl, _⟩ := h
    rfl
  · obtain ⟨t, rfl, k⟩ := h
    refine ⟨_, (pss_one (ps_ret (pe_chain op_le op_le pe_int (pv 0) (pe_gi T.g_HIGHEST_BED rfl)))), ?_⟩
    exact ⟨_, rfl, _, _, rfl, rfl, _, rfl, ifd (fun c => ⟨_, _, rfl, rfl, bE k (by omega)⟩) (fun c => absurd (Int.natCast_nonneg t) c)⟩
theorem ok_is_wave (T : Tx K mg A) : FnOk P w K mg base CX0 1 A.a_is_wave A.d_is_wave ["each", "high", "low"] sp_is_wave := by
  refine T.is_wave.fn.ok sc_is_wave (fun vs H Q E h => ?_) (fun cdv Ar outer s H vs Q E hr h => ?_)
  · obtain ⟨e, h, l, rfl, _⟩ := h
    rfl
  · obtain ⟨e, h, l, rfl, k⟩ := h
    refine ⟨_, (pss_cons (ps_if (pt_not (pt_chain op_le op_le (pe_gi T.g_SHORTEST_WAVE rfl) (pv 0) (pe_gi T.g_LONGEST_WAVE rfl)))
      (pss_one (ps_ret pe_bl))
      pss_nil)
      (pss_cons (ps_if (pt_not (pt_chain op_le op_le (pe_gi T.g_LOWEST_WAVE rfl) (pv 1) (pe_gi T.g_HIGHEST_WAVE rfl)))
      (pss_one (ps_ret pe_bl))
      pss_nil)
      (pss_one (ps_ret (pe_chain op_le op_lt pe_int (pv 2) (pv 0)))))), ?_⟩
    refine ⟨_, rfl, _, _, rfl, rfl, _, rfl, ifd (fun c1 => ⟨_, _, rfl, rfl, _, rfl, ifn (fun c2 => bF k (by omega)) (fun c2 => ?_)⟩) (fun c1 => ⟨_, rfl, iteT (bF k (by omega))⟩)⟩
    refine ⟨_, rfl, _, _, rfl, rfl, _, rfl, ifd (fun c3 => ⟨_, _, rfl, rfl, _, rfl, ifn (fun c4 => bF k (by omega)) (fun c4 => ?_)⟩) (fun c3 => ⟨_, rfl, iteT (bF k (by omega))⟩)⟩
    exact ⟨_, rfl, _, _, rfl, rfl, _, rfl, ifd (fun c5 => ⟨_, rfl, _, _, rfl, rfl, bE k (by omega)⟩) (fun c5 => absurd (Int.natCast_nonneg l) c5)⟩
theorem few1 {f : Str} {v : V} : (putF f v []).length < 1000 := by show 1 < 1000; decide
theorem few2 {f g : Str} {u v : V} : (putF g u (putF f v [])).length < 1000 := by
  have h1 := length_putF g u (putF f v [])
  have h2 : (putF f v []).length = 1 := rfl
  omega
theorem few3 {f g h : Str} {u v x : V} : (putF h x (putF g u (putF f v []))).length < 1000 := by
  have h1 := length_putF h x (putF g u (putF f v []))
  have h2 := length_putF g u (putF f v [])
  have h3 : (putF f v []).length = 1 := rfl
  omega
theorem few4 {f g h i : Str} {u v x y : V} : (putF i y (putF h x (putF g u (putF f v [])))).length < 1000 := by
  have h0 := length_putF i y (putF h x (putF g u (putF f v [])))
  have h1 := length_putF h x (putF g u (putF f v []))
  have h2 := length_putF g u (putF f v [])
  have h3 : (putF f v []).length = 1 := rfl
  omega
theorem ats {H : Hp} {p C dx : Addr} {fs fs' : List (Str × V)} (e : fs = fs') : upd H p (.ins C dx fs) p = some (.ins C dx fs') := by rw [e]; exact upd_same
theorem ok_Wave_init (T : Tx K mg A) : FnOk P w K mg base CX0 1 A.a_Wave_init A.d_Wave_init ["self", "each", "high", "low"] (sp_Wave_init A) := by
  refine T.Wave_init.fn.ok sc_Wave_init (fun vs H Q E h => ?_) (fun cdv Ar outer s H vs Q E hr h => ?_)
  · obtain ⟨p, dx, e, h, l, rfl, _⟩ := h
    rfl
  · obtain ⟨p, dx, e, hi, l, rfl, hp, ⟨he1, he2, he3⟩, k⟩ := h
    refine ⟨_, (pss_cons (ps_fld (pv 0) (pv 1) rfl)
      (pss_cons (ps_fld (pv 0) (pv 3) rfl)
      (pss_one (ps_fld (pv 0) (pe_lc rfl sc_Wave_init.nd (pi_range1 rfl T.n_range (pa_cons (pv 1) pa_nil)) (blkOk_by (N := ["self", "each", "high", "low", "since"]) (sc := defScope s_Wave_init) (own := [("since", 4)]) (by decide +kernel)) (fun _ _ _ _ _ => (pg_name (i := 4) sc_Wave_init.nd rfl (Or.inl rfl) (Or.inr rfl))) (fun _ _ _ _ _ => pts_nil) (fun _ _ _ _ _ => (pe_op op_fdiv (pe_op op_mul (pe_op op_mul (pv 2) pe_int) (pe_callB (call_min2 rfl) (by rfl) T.n_min PyProof.Rows.boot_min (pa_cons (pv 4) (pa_cons (pe_op op_sub (pv 1) (pv 4)) pa_nil)))) (pv 1)))) rfl)))), ?_⟩
    refine ⟨_, rfl, _, rfl, p, _, dx, _, rfl, hp, T.Wave.cl, T.f_Wave_each, (by decide), ?_⟩
    refine ⟨_, rfl, _, rfl, p, _, dx, _, rfl, upd_same, T.Wave.cl, T.f_Wave_low, few1, ?_⟩
    refine ⟨_, rfl, (e : Int), rfl, by omega, by omega, fun D hD => ?_⟩
    have hD0 : H D = none := free_upd D (free_upd D hD)
    refine lc_range (n := e) (fun i H' => Same (upd (upd H p (.ins A.C_Wave dx (putF "each" (.int e) []))) p (.ins A.C_Wave dx (putF "low" (.int l) (putF "each" (.int e) [])))) H' ∧ H' D = some (.lst (tab i fun s => .int ((addN hi e s : Nat) : Int)))) ⟨Same.rfl.new hD, upd_same⟩ ?_ ?_
    · rintro i H' hl ⟨SH, hL⟩
      refine ⟨rfl, yes (iteT ?_)⟩
      refine ⟨_, rfl, _, _, rfl, rfl, .inl ⟨by show -(2 ^ 64) < (hi : Int); omega, by show (hi : Int) < 2 ^ 64; omega⟩, _, rfl, _, rfl, _, rfl, _, _, rfl, rfl, _, _, rfl, _, _, rfl, rfl, .inl ⟨by show -(2 ^ 64) < (hi : Int) * 2; omega, by show (hi : Int) * 2 < 2 ^ 64; omega⟩, _, rfl, _, _, rfl, rfl, ⟨by show (0 : Int) < e; omega, by show (e : Int) < 1073741824; omega⟩, ?_⟩
      refine ⟨_, hL, by rw [tab_len]; exact line_lt (by omega), SH.put hD, ?_⟩
      rw [upd_same, tab_succ, ← addN_int hi e i hl, Int.zero_add]
    · rintro H' ⟨SH, hL⟩
      refine ⟨_, rfl, p, _, dx, _, rfl, SH _ _ upd_same, T.Wave.cl, T.f_Wave_added, few2, ?_⟩
      have n1 : D ≠ p := fun z => by rw [z] at hD0; rw [hp] at hD0; cases hD0
      refine k _ D ⟨⟨dx, ats F_Wave_new⟩, ?_⟩ hD0 fun b o q hb => ?_
      · rw [upd_ne n1]
        exact hL
      · rw [upd_ne hb]
        exact SH b o (by rw [upd_ne hb, upd_ne hb]; exact q)
theorem ok_Bed_init (T : Tx K mg A) : FnOk P w K mg base CX0 1 A.a_Bed_init A.d_Bed_init ["self", "height"] (sp_Bed_init A) := by
  refine T.Bed_init.fn.ok sc_Bed_init (fun vs H Q E h => ?_) (fun cdv Ar outer s H vs Q E hr h => ?_)
  · obtain ⟨p, dx, h, rfl, _⟩ := h
    rfl
  · obtain ⟨p, dx, h, rfl, hp, k⟩ := h
    refine ⟨_, (pss_cons (ps_fld (pv 0) (pv 1) rfl)
      (pss_one (ps_fld (pv 0) pe_int rfl))), ?_⟩
    refine ⟨_, rfl, _, rfl, p, _, dx, _, rfl, hp, T.Bed.cl, T.f_Bed_height, (by decide), ?_⟩
    refine ⟨_, rfl, p, _, dx, _, rfl, upd_same, T.Bed.cl, T.f_Bed_worked, few1, ?_⟩
    exact k _ ⟨dx, ats F_Bed_new⟩ fun b o q hb => by rw [upd_ne hb, upd_ne hb]; exact q
theorem bare_of {H H3 : Hp} {p wl bl dx : Addr} {o4 o5 : HO} {f : Bool} {b : Nat} (h3 : ∀ c, c ≠ p → H3 c = H c) (hp3 : ∃ o, H3 p = some o) (hw : H3 wl = none) (hb : upd (upd H3 wl (.lst [])) p o4 bl = none)
    (e : o5 = .ins A.C_Shore dx (F_Shore (.bl f) (.int b) (.int 0) (.ref wl) (.ref bl))) : Bare A H (upd (upd (upd (upd H3 wl (.lst [])) p o4) bl (.lst [])) p o5) p f b := by
  obtain ⟨o3, hp3⟩ := hp3
  have n1 : p ≠ wl := ne_of_none hp3 hw
  have n2 : p ≠ bl := ne_of_none upd_same hb
  have w1 : upd (upd H3 wl (.lst [])) p o4 wl = some (.lst []) := by rw [upd_ne n1.symm]; exact upd_same
  have n3 : wl ≠ bl := ne_of_none w1 hb
  refine ⟨wl, bl, ⟨dx, by rw [e]; exact upd_same⟩, ?_, ?_, n3, ?_, ?_⟩
  · rw [upd_ne n1.symm, upd_ne n3]
    exact w1
  · rw [upd_ne n2.symm]
    exact upd_same
  · intro c o hc n
    have c1 : H3 c = some o := by rw [h3 c n]; exact hc
    have c2 : c ≠ wl := ne_of_none c1 hw
    have c3 : upd (upd H3 wl (.lst [])) p o4 c = some o := by rw [upd_ne n, upd_ne c2]; exact c1
    have c4 : c ≠ bl := ne_of_none c3 hb
    exact ⟨by rw [upd_ne n, upd_ne c4]; exact c3, c2, c4⟩
  · intro c hc
    by_cases q1 : c = p
    · subst q1
      rw [upd_same] at hc
      cases hc
    · rw [upd_ne q1] at hc
      by_cases q2 : c = bl
      · subst q2
        rw [upd_same] at hc
        cases hc
      · rw [upd_ne q2, upd_ne q1] at hc
        by_cases q3 : c = wl
        · subst q3
          rw [upd_same] at hc
          cases hc
        · rw [upd_ne q3, h3 c q1] at hc
          exact hc
theorem ok_Shore_init (T : Tx K mg A) : FnOk P w K mg base CX0 1 A.a_Shore_init A.d_Shore_init ["self"] (sp_Shore_init A) := by
  refine T.Shore_init.fn.ok sc_Shore_init (fun vs H Q E h => ?_) (fun cdv Ar outer s H vs Q E hr h => ?_)
  · obtain ⟨p, dx, rfl, _⟩ := h
    rfl
  · obtain ⟨p, dx, rfl, hp, k⟩ := h
    refine ⟨_, (pss_cons (ps_fld (pv 0) pe_bl rfl)
      (pss_cons (ps_fld (pv 0) pe_int rfl)
      (pss_cons (ps_fld (pv 0) pe_int rfl)
      (pss_cons (ps_fld (pv 0) (pe_lst pa_nil) rfl)
      (pss_one (ps_fld (pv 0) (pe_lst pa_nil) rfl)))))), ?_⟩
    refine ⟨_, rfl, p, _, dx, _, rfl, hp, T.Shore.cl, T.f_Shore_begun, (by decide), ?_⟩
    refine ⟨_, rfl, p, _, dx, _, rfl, upd_same, T.Shore.cl, T.f_Shore_base, few1, ?_⟩
    refine ⟨_, rfl, p, _, dx, _, rfl, upd_same, T.Shore.cl, T.f_Shore_minute, few2, ?_⟩
    refine ⟨Nat.zero_le _, fun wl hw => ?_⟩
    have n1 : p ≠ wl := ne_of_none upd_same hw
    refine ⟨_, rfl, p, _, dx, _, rfl, (upd_ne n1).trans upd_same, T.Shore.cl, T.f_Shore_waves, few3, ?_⟩
    refine ⟨Nat.zero_le _, fun bl hb => ?_⟩
    have n2 : p ≠ bl := ne_of_none upd_same hb
    refine ⟨_, rfl, p, _, dx, _, rfl, (upd_ne n2).trans upd_same, T.Shore.cl, T.f_Shore_beds, few4, ?_⟩
    exact k _ (bare_of (fun c n => by rw [upd_ne n, upd_ne n, upd_ne n]) ⟨_, upd_same⟩ hw hb (congrArg (fun q => HO.ins A.C_Shore dx q) F_Shore_new))
theorem ok_Shore_begin_afresh (T : Tx K mg A) : FnOk P w K mg base CX0 1 A.a_Shore_begin_afresh A.d_Shore_begin_afresh ["self", "base"] (sp_Shore_begin_afresh A) := by
  refine T.Shore_begin_afresh.fn.ok sc_Shore_begin_afresh (fun vs H Q E h => ?_) (fun cdv Ar outer s H vs Q E hr h => ?_)
  · obtain ⟨p, dx, v0, v1, v2, v3, v4, b, rfl, _⟩ := h
    rfl
  · obtain ⟨p, dx, v0, v1, v2, v3, v4, b, rfl, hp, k⟩ := h
    refine ⟨_, (pss_cons (ps_fld (pv 0) pe_bl rfl)
      (pss_cons (ps_fld (pv 0) (pv 1) rfl)
      (pss_cons (ps_fld (pv 0) pe_int rfl)
      (pss_cons (ps_fld (pv 0) (pe_lst pa_nil) rfl)
      (pss_one (ps_fld (pv 0) (pe_lst pa_nil) rfl)))))), ?_⟩
    refine ⟨_, rfl, _, _, _, _, rfl, hp, T.Shore.cl, T.f_Shore_begun, (by show 5 < 1000; decide), ?_⟩
    refine ⟨_, rfl, _, rfl, _, _, _, _, rfl, (ats F_Shore_put_begun), T.Shore.cl, T.f_Shore_base, (by show 5 < 1000; decide), ?_⟩
    refine ⟨_, rfl, _, _, _, _, rfl, (ats F_Shore_put_base), T.Shore.cl, T.f_Shore_minute, (by show 5 < 1000; decide), ?_⟩
    refine ⟨Nat.zero_le _, fun wl hw => ?_⟩
    have n1 : p ≠ wl := ne_of_none upd_same hw
    refine ⟨_, rfl, _, _, _, _, rfl, ((upd_ne n1).trans (ats F_Shore_put_minute)), T.Shore.cl, T.f_Shore_waves, (by show 5 < 1000; decide), ?_⟩
    refine ⟨Nat.zero_le _, fun bl hb => ?_⟩
    have n2 : p ≠ bl := ne_of_none upd_same hb
    refine ⟨_, rfl, _, _, _, _, rfl, ((upd_ne n2).trans (ats F_Shore_put_waves)), T.Shore.cl, T.f_Shore_beds, (by show 5 < 1000; decide), ?_⟩
    exact k _ (bare_of (fun c n => by rw [upd_ne n, upd_ne n, upd_ne n]) ⟨_, upd_same⟩ hw hb (congrArg (fun q => HO.ins A.C_Shore dx q) F_Shore_put_beds))
theorem ok_Shore_has_bed (T : Tx K mg A) : FnOk P w K mg base CX0 1 A.a_Shore_has_bed A.d_Shore_has_bed ["self", "bed"] (sp_Shore_has_bed A) := by
  refine T.Shore_has_bed.fn.ok sc_Shore_has_bed (fun vs H Q E h => ?_) (fun cdv Ar outer s H vs Q E hr h => ?_)
  · obtain ⟨f, g, a, b, rfl, _⟩ := h
    rfl
  · obtain ⟨f, g, a, b, rfl, S, k⟩ := h
    obtain ⟨dx, hs⟩ := S.sh
    refine ⟨_, (pss_one (ps_ret (pe_chain op_le op_lt pe_int (pv 1) (pe_callB call_len_seq (by rfl) T.n_len PySem.boot_len (pa_cons (pe_fld (pv 0) rfl) pa_nil))))), ?_⟩
    refine ⟨_, rfl, _, _, rfl, rfl, _, rfl, ifd (fun c => ?_) (fun c => absurd (Int.natCast_nonneg b) c)⟩
    refine ⟨_, rfl, _, _, _, _, _, rfl, hs, T.Shore.cl, T.f_Shore_beds, F_Shore_beds, _, _, rfl, .inl (SqL.of S.bl), _, _, rfl, rfl, bE k ?_⟩
    rw [List.length_map, S.blen]
    omega
theorem ok_Wave_adds_at (T : Tx K mg A) : FnOk P w K mg base CX0 1 A.a_Wave_adds_at A.d_Wave_adds_at ["self", "minute"] (sp_Wave_adds_at A) := by
  refine T.Wave_adds_at.fn.ok sc_Wave_adds_at (fun vs H Q E h => ?_) (fun cdv Ar outer s H vs Q E hr h => ?_)
  · obtain ⟨p, la, w, t, rfl, _⟩ := h
    rfl
  · obtain ⟨p, la, w, t, rfl, ⟨⟨dx, hp⟩, hL⟩, hw, k⟩ := h
    refine ⟨_, (pss_one (ps_ret (pe_ix ix_list (pe_fld (pv 0) rfl) (pe_op op_mod (pe_op op_sub (pv 1) (pe_fld (pv 0) rfl)) (pe_fld (pv 0) rfl)) (fun _ _ => rfl)))), ?_⟩
    refine ⟨_, rfl, _, _, _, _, _, rfl, hp, T.Wave.cl, T.f_Wave_added, F_Wave_added, _, rfl, _, rfl, _, _, _, _, _, rfl, hp, T.Wave.cl, T.f_Wave_low, F_Wave_low, _, _, rfl, rfl, _, rfl, _, _, _, _, _, rfl, hp, T.Wave.cl, T.f_Wave_each, F_Wave_each, _, _, rfl, rfl, (by show (0 : Int) < w.each; have := hw.1; omega), ?_⟩
    refine ⟨la, _, _, _, rfl, rfl, SqL.of hL, (by rw [since_int w t hw.2.2.2]; exact atI_nat (addL_at (since_lt w t hw.1))), k⟩
theorem ok_Wave_adds_from (T : Tx K mg A) : FnOk P w K mg base CX0 1 A.a_Wave_adds_from A.d_Wave_adds_from ["self", "minute", "how_many"] (sp_Wave_adds_from A) := by
  refine T.Wave_adds_from.fn.ok sc_Wave_adds_from (fun vs H Q E h => ?_) (fun cdv Ar outer s H vs Q E hr h => ?_)
  · obtain ⟨p, la, w, t, n, rfl, _⟩ := h
    rfl
  · obtain ⟨p, la, w, t, n, rfl, ⟨⟨dx, hp⟩, hL⟩, hw, hn, k⟩ := h
    obtain ⟨w1, w2, w3, w4⟩ := id hw
    have hs := since_lt w t w1
    refine ⟨_, (pss_cons (ps_set (i := 3) sc_Wave_adds_from.nd rfl (Or.inl rfl) (pe_op op_mod (pe_op op_sub (pv 1) (pe_fld (pv 0) rfl)) (pe_fld (pv 0) rfl)))
      (pss_cons (ps_set (i := 4) sc_Wave_adds_from.nd rfl (Or.inl rfl) (pe_op op_add (pe_op op_fdiv (pe_op op_add (pv 3) (pv 2)) (pe_fld (pv 0) rfl)) pe_int))
      (pss_one (ps_ret (pe_slice sl_list (pe_op op_rep (pe_fld (pv 0) rfl) (pv 4)) (po_some (pv 3)) (po_some (pe_op op_add (pv 3) (pv 2)))))))), ?_⟩
    refine ⟨_, rfl, _, rfl, _, _, _, _, _, rfl, hp, T.Wave.cl, T.f_Wave_low, F_Wave_low, _, _, rfl, rfl, _, rfl, _, _, _, _, _, rfl, hp, T.Wave.cl, T.f_Wave_each, F_Wave_each, _, _, rfl, rfl, (by show (0 : Int) < w.each; omega), ?_⟩
    refine ⟨_, rfl, _, rfl, _, _, rfl, rfl, _, rfl, _, _, _, _, _, rfl, hp, T.Wave.cl, T.f_Wave_each, F_Wave_each, _, _, rfl, rfl, ⟨by show (0 : Int) < w.each; omega, by show (w.each : Int) < 1073741824; omega⟩, _, _, rfl, rfl, ?_⟩
    have e1 : (((t : Int) - (w.low : Int)) % (w.each : Int) + (n : Int)) / (w.each : Int) + 1 = (((since w t + n) / w.each + 1 : Nat) : Int) := by
      rw [since_int w t w4]
      push_cast
      rfl
    have hlen : w.each * ((since w t + n) / w.each + 1) ≤ 16000 := by
      rw [Nat.mul_add, Nat.mul_one]
      have := Nat.mul_div_le (since w t + n) w.each
      omega
    have hge : since w t + n < w.each * ((since w t + n) / w.each + 1) := Nat.lt_mul_div_succ _ (by omega)
    refine ⟨_, rfl, _, _, _, _, _, rfl, hp, T.Wave.cl, T.f_Wave_added, F_Wave_added, _, rfl, la, _, _, rfl, rfl, hL, ?_, ?_, ?_, fun q hq => ?_⟩
    · rw [e1]
      exact Int.le_trans (by decide) (Int.natCast_nonneg _)
    · rw [e1]
      have h1 : (since w t + n) / w.each + 1 ≤ w.each * ((since w t + n) / w.each + 1) := Nat.le_mul_of_pos_left _ (by omega)
      omega
    · rw [e1, addL_length, Int.toNat_natCast]
      exact Nat.le_trans hlen (by decide)
    · refine ⟨_, rfl, _, rfl, _, rfl, _, rfl, _, _, rfl, rfl, _, rfl, q, _, rfl, SqL.of upd_same, fun p2 hp2 => ?_⟩
      refine k _ p2 ((Same.rfl.new hq).new hp2) (free_upd p2 hp2) ?_
      rw [upd_same]
      congr 2
      rw [e1, since_int w t w4, Int.toNat_natCast]
      have hL2 : (List.replicate ((since w t + n) / w.each + 1) (addL w)).flatten.length = w.each * ((since w t + n) / w.each + 1) := by rw [rep_len, addL_length, Nat.mul_comm]
      rw [show ((since w t : Nat) : Int) + (n : Int) = ((since w t + n : Nat) : Int) by omega]
      unfold cutV
      rw [HT.sIx_nat, HT.sIx_nat, hL2, Nat.min_eq_left (by omega), Nat.min_eq_left (by omega), show since w t + n - since w t = n by omega]
      refine tab_ext (by rw [List.length_take, List.length_drop, hL2]; omega) fun j hj => ?_
      rw [List.getElem?_take_of_lt hj, List.getElem?_drop, rep_at _ _ _ (by rw [addL_length, Nat.mul_comm]; omega), addL_length, addL_at (Nat.mod_lt _ (by omega)), since_add w t j w4]
      rfl
theorem map_at {ws : List Addr} {i : Nat} {y : V} (h : (ws.map V.ref)[i]? = some y) : ∃ p, ws[i]? = some p ∧ y = .ref p := by
  rw [List.getElem?_map] at h
  cases e : ws[i]? with
  | none => rw [e] at h; cases h
  | some p =>
    rw [e] at h
    exact ⟨p, rfl, (Option.some.inj h).symm⟩
theorem at_map {ws : List Addr} {i : Nat} {p : Addr} (h : ws[i]? = some p) : (ws.map V.ref)[i]? = some (V.ref p) := by
  rw [List.getElem?_map, h]
  rfl
theorem ok_Shore_water_at (T : Tx K mg A) : FnOk P w K mg base CX0 2 A.a_Shore_water_at A.d_Shore_water_at ["self", "minute"] (sp_Shore_water_at A) := by
  refine T.Shore_water_at.fn.ok sc_Shore_water_at (fun vs H Q E h => ?_) (fun cdv Ar outer s H vs Q E hr h => ?_)
  · obtain ⟨f, g, a, t, rfl, _⟩ := h
    rfl
  · obtain ⟨f, g, a, t, rfl, S, k⟩ := h
    obtain ⟨dx, hs⟩ := S.sh
    refine ⟨_, (pss_cons (ps_set (i := 2) sc_Shore_water_at.nd rfl (Or.inl rfl) (pe_fld (pv 0) rfl))
      (pss_cons (ps_for PassesOwn.never rfl (pi_list (pe_fld (pv 0) rfl)) (pg_name (i := 3) sc_Shore_water_at.nd rfl (Or.inl rfl))
      (pss_one (ps_aug (i := 2) sc_Shore_water_at.nd rfl (Or.inl rfl) (pe_meth (pv 3) T.Wave.cl T.Wave_adds_at.me (ok_Wave_adds_at T) (hr.mono (by decide)) T.Wave_adds_at.bd .nil pass0 (pa_cons (pv 1) pa_nil)) ip_add)))
      (pss_one (ps_ret (pv 2))))), ?_⟩
    refine ⟨_, rfl, _, _, _, _, _, rfl, hs, T.Shore.cl, T.f_Shore_base, F_Shore_base, ?_⟩
    refine ⟨_, rfl, _, _, _, _, _, rfl, hs, T.Shore.cl, T.f_Shore_waves, F_Shore_waves, g.wl, rfl, ⟨_, SqL.of S.wl⟩, for_list (K := K) (a := g.wl) (xs := g.ws.map V.ref) (fun i σ H' => ∃ v : Option V, σ = [some (.ref g.sh), some (.int t), some (.int (part a t i : Nat)), v] ∧ H' = H)
      ⟨none, by rw [part_zero]; rfl, rfl⟩ (fun i σ H' _ ⟨_, _, e⟩ => by rw [e]; exact SqL.of S.wl) ?_ ?_⟩
    · rintro i y σ H' hi ⟨v, rfl, rfl⟩
      obtain ⟨p, hp, rfl⟩ := map_at hi
      obtain ⟨w, la, hw, _, ⟨dw, hW⟩, hL⟩ := S.wave hp
      refine ⟨_, rfl, _, rfl, p, dw, _, rfl, hW, F_Wave_no_adds_at, _, rfl, p, la, w, t, rfl, ⟨⟨dw, hW⟩, hL⟩, S.ok.wv w (List.mem_of_getElem? hw), _, _, rfl, rfl, ?_⟩
      exact ⟨_, by rw [part_succ hw]; rfl, rfl⟩
    · rintro σ H' ⟨v, rfl, rfl⟩
      exact ⟨_, rfl, vI k (by rw [List.length_map, S.wlen, part_all])⟩
theorem ok_Shore_has_beds (T : Tx K mg A) : FnOk P w K mg base CX0 2 A.a_Shore_has_beds A.d_Shore_has_beds ["self", "beds"] (sp_Shore_has_beds K A) := by
  refine T.Shore_has_beds.fn.ok sc_Shore_has_beds (fun vs H Q E h => ?_) (fun cdv Ar outer s H vs Q E hr h => ?_)
  · obtain ⟨f, g, a, q, l, rfl, _⟩ := h
    rfl
  · obtain ⟨f, g, a, q, l, rfl, S, hq, hl, k⟩ := h
    obtain ⟨dx, hs⟩ := S.sh
    refine ⟨_, (pss_one (ps_ret (pe_callB (cr_all rfl) (by rfl) T.n_all PyProof.Rows.boot_all (pa_cons (pe_lc rfl sc_Shore_has_beds.nd (pi_list (pv 1)) (blkOk_by (N := ["self", "beds", "bed"]) (sc := defScope s_Shore_has_beds) (own := [("bed", 2)]) (by decide +kernel)) (fun _ _ _ _ _ => (pg_name (i := 2) sc_Shore_has_beds.nd rfl (Or.inl rfl) (Or.inr rfl))) (fun _ _ _ _ _ => pts_nil) (fun _ _ _ _ _ => (pe_meth (pv 0) T.Shore.cl T.Shore_has_bed.me (ok_Shore_has_bed T) (hr.mono (by decide)) T.Shore_has_bed.bd .nil pass0 (pa_cons (pv 2) pa_nil)))) pa_nil)))), ?_⟩
    refine ⟨_, rfl, q, rfl, ⟨_, hq⟩, fun D hD => ?_⟩
    refine lc_list (K := K) (xs := nV l) (fun i H' => Same H H' ∧ H' D = some (.lst ((l.take i).map fun b => .bl (decide (b < a.beds.length))))) ⟨Same.rfl.new hD, upd_same⟩ (fun i H' _ z => SqL.same hq z.1) ?_ ?_
    · rintro i x H' hx ⟨SH, hL⟩
      obtain ⟨b, hb, rfl⟩ := nV_at hx
      refine ⟨rfl, yes (iteT ?_)⟩
      obtain ⟨d1, hs1⟩ := (S.same SH).sh
      refine ⟨_, rfl, g.sh, d1, _, rfl, hs1, F_Shore_no_has_bed, _, rfl, f, g, a, b, rfl, S.same SH, _, hL, ?_, SH.put hD, ?_⟩
      · rw [List.length_map]
        exact line_lt (by have := List.length_take_le' i l; omega)
      · rw [upd_same, take_snoc hb, List.map_append]
        rfl
    · rintro H' ⟨SH, hL⟩
      rw [List.length_map, List.take_length] at hL
      refine ⟨D, l.map fun b => decide (b < a.beds.length), rfl, SqL.of (by rw [List.map_map]; exact hL), ?_⟩
      have e : (l.map fun b => decide (b < a.beds.length)).all id = l.all fun b => decide (b < a.beds.length) := by rw [List.all_map]; rfl
      rw [e]
      exact k H' SH
theorem tab_congr {n : Nat} {f g : Nat → V} (h : ∀ k, k < n → f k = g k) : tab n f = tab n g := tab_ext tab_len fun k hk => by rw [tab_at hk, h k hk]
theorem ok_Shore_waters_from (T : Tx K mg A) : FnOk P w K mg base CX0 2 A.a_Shore_waters_from A.d_Shore_waters_from ["self", "minute", "how_many"] (sp_Shore_waters_from A) := by
  refine T.Shore_waters_from.fn.ok sc_Shore_waters_from (fun vs H Q E h => ?_) (fun cdv Ar outer s H vs Q E hr h => ?_)
  · obtain ⟨f, g, a, t, n, rfl, _⟩ := h
    rfl
  · obtain ⟨f, g, a, t, n, rfl, S, hn, k⟩ := h
    obtain ⟨dx, hs⟩ := S.sh
    refine ⟨_, (pss_cons (ps_set (i := 3) sc_Shore_waters_from.nd rfl (Or.inl rfl) (pe_op op_rep (pe_lst (pa_cons (pe_fld (pv 0) rfl) pa_nil)) (pv 2)))
      (pss_cons (ps_for PassesOwn.never rfl (pi_list (pe_fld (pv 0) rfl)) (pg_name (i := 4) sc_Shore_waters_from.nd rfl (Or.inl rfl))
      (pss_one (ps_setLc (i := 3) rfl sc_Shore_waters_from.nd rfl rfl (sw_true rfl rfl rfl rfl) (pi_zip rfl T.n_zip (pa_cons (pv 3) (pa_cons (pe_meth (pv 4) T.Wave.cl T.Wave_adds_from.me (ok_Wave_adds_from T) (hr.mono (by decide)) T.Wave_adds_from.bd .nil pass0 (pa_cons (pv 1) (pa_cons (pv 2) pa_nil))) pa_nil))) (blkOk_by (N := ["self", "minute", "how_many", "waters", "wave", "water", "added"]) (sc := defScope s_Shore_waters_from) (own := [("water", 5), ("added", 6)]) (by decide +kernel)) (fun _ _ _ _ _ => (pg_tupK (K := K) (n := 2) rfl rfl (pgs_cons (pg_name (i := 5) sc_Shore_waters_from.nd rfl (Or.inl rfl) (Or.inr rfl)) (pgs_cons (pg_name (i := 6) sc_Shore_waters_from.nd rfl (Or.inl rfl) (Or.inr rfl)) pgs_nil)))) (fun _ _ _ _ _ => pts_nil) (fun _ _ _ _ _ => (pe_op op_add (pv 5) (pv 6))))))
      (pss_one (ps_ret (pv 3))))), ?_⟩
    refine ⟨_, rfl, _, _, _, _, _, rfl, hs, T.Shore.cl, T.f_Shore_base, F_Shore_base, (by show 1 ≤ sizeLine; decide), fun b0 hb0 => ?_⟩
    refine ⟨_, rfl, b0, _, _, rfl, rfl, upd_same, by omega, by omega, (by show 1 * (n : Int).toNat ≤ sizeLine; rw [Int.toNat_natCast, Nat.one_mul]; exact Nat.le_of_lt (line_lt (by omega))), fun q0 hq0 => ?_⟩
    have SH0 : Same H (upd (upd H b0 (.lst [.int a.base])) q0 (.lst (List.replicate (n : Int).toNat [V.int a.base]).flatten)) := (Same.rfl.new hb0).new hq0
    have e0 : (List.replicate (n : Int).toNat [V.int a.base]).flatten = tab n fun k => .int (part a (t + k) 0 : Nat) := by
      rw [Int.toNat_natCast]
      refine tab_ext (by rw [rep_len]; simp) fun k hk => ?_
      rw [rep_at _ _ _ (by simpa using hk), part_zero]
      simp [Nat.mod_one]
    obtain ⟨d0, hs0⟩ := (S.same SH0).sh
    refine ⟨_, rfl, _, _, _, _, _, rfl, hs0, T.Shore.cl, T.f_Shore_waves, F_Shore_waves, g.wl, rfl, ⟨_, SqL.of (S.same SH0).wl⟩, for_list (K := K) (a := g.wl) (xs := g.ws.map V.ref) (fun i σ H' => ∃ (q : Addr) (v1 : Option V), σ = [some (.ref g.sh), some (.int t), some (.int n), some (.ref q), v1, none, none] ∧ Same H H' ∧ H q = none ∧ H' q = some (.lst (tab n fun k => .int (part a (t + k) i : Nat))))
      ⟨q0, none, rfl, SH0, free_upd q0 hq0, by rw [upd_same, e0]⟩ (fun i σ H' _ ⟨_, _, _, e, _⟩ => SqL.of (S.same e).wl) ?_ ?_⟩
    · rintro i y σ H' hi ⟨q, v1, rfl, SH, hq0', hL⟩
      obtain ⟨p, hp, rfl⟩ := map_at hi
      have S' := S.same SH
      obtain ⟨w, la, hw, _, ⟨dw, hW⟩, hA⟩ := S'.wave hp
      refine ⟨_, rfl, _, rfl, p, dw, _, rfl, hW, F_Wave_no_adds_from, _, rfl, _, rfl, p, la, w, t, n, rfl, ⟨⟨dw, hW⟩, hA⟩, S.ok.wv w (List.mem_of_getElem? hw), hn, fun H1 q1 SH1 hq1 hL1 => ?_⟩
      refine ⟨q, q1, _, _, rfl, SqL.of (SH1 _ _ hL), SqL.of hL1, fun D hD => ?_⟩
      have hD0 : H D = none := SH.free (SH1.free hD)
      refine lc_zip (K := K) (fun j H2 => Same H1 H2 ∧ H2 D = some (.lst (tab j fun k => .int (part a (t + k) (i + 1) : Nat)))) ⟨Same.rfl.new hD, upd_same⟩ (fun j H2 _ z => ⟨SqL.of (z.1 _ _ (SH1 _ _ hL)), SqL.of (z.1 _ _ hL1)⟩) (by rw [tab_len, tab_len]) ?_ ?_
      · rintro j x y P2 H2 hx hy ⟨SH2, hL2⟩ hP2
        obtain ⟨hj, rfl⟩ := tab_inv hx
        obtain ⟨_, rfl⟩ := tab_inv hy
        have n2 : D ≠ P2 := ne_of_none hL2 hP2
        refine ⟨P2, _, rfl, SqT.of upd_same, rfl, _, _, rfl, _, _, rfl, rfl, rfl, yes (iteT ?_)⟩
        refine ⟨_, rfl, _, rfl, _, _, rfl, rfl, _, (upd_ne n2).trans hL2, (by rw [tab_len]; exact line_lt (by omega)), (SH2.new hP2).put hD, ?_⟩
        rw [upd_same, tab_succ, part_succ hw]
        rfl
      · rintro H2 ⟨SH2, hL2⟩
        rw [tab_len] at hL2
        exact ⟨D, _, rfl, (SH.trans SH1).trans SH2, hD0, hL2⟩
    · rintro σ H' ⟨q, v1, rfl, SH, hq, hL⟩
      refine ⟨_, rfl, k H' q SH hq ?_⟩
      rw [hL, List.length_map, S.wlen]
      congr 2
      exact tab_congr fun j _ => by rw [part_all]
theorem ok_Shore_is_dry (T : Tx K mg A) : FnOk P w K mg base CX0 3 A.a_Shore_is_dry A.d_Shore_is_dry ["self", "bed", "minute"] (sp_Shore_is_dry A) := by
  refine T.Shore_is_dry.fn.ok sc_Shore_is_dry (fun vs H Q E h => ?_) (fun cdv Ar outer s H vs Q E hr h => ?_)
  · obtain ⟨f, g, a, b, t, rfl, _⟩ := h
    rfl
  · obtain ⟨f, g, a, b, t, rfl, S, hb, k⟩ := h
    obtain ⟨dx, hs⟩ := S.sh
    obtain ⟨p, hp, db, hB⟩ := S.bed hb
    refine ⟨_, (pss_one (ps_ret (pe_cmpR op_lt (pe_meth (pv 0) T.Shore.cl T.Shore_water_at.me (ok_Shore_water_at T) (hr.mono (by decide)) T.Shore_water_at.bd .nil pass0 (pa_cons (pv 2) pa_nil)) (pe_fld (pe_ix ix_list (pe_fld (pv 0) rfl) (pv 1) (fun _ _ => rfl)) rfl) (nomark _)))), ?_⟩
    refine ⟨_, rfl, g.sh, dx, _, rfl, hs, F_Shore_no_water_at, _, rfl, f, g, a, t, rfl, S, _, rfl, _, _, _, _, _, rfl, hs, T.Shore.cl, T.f_Shore_beds, F_Shore_beds, _, rfl, g.bl, _, _, V.ref p, rfl, rfl, SqL.of S.bl, atI_nat (at_map hp), _, _, _, _, _, rfl, hB, T.Bed.cl, T.f_Bed_height, F_Bed_height, _, _, rfl, rfl, ?_⟩
    exact bE (q := a.height t < a.bed b) k (by omega)
theorem ok_dry_minutes_from (T : Tx K mg A) : FnOk P w K mg base CX0 4 A.a_dry_minutes_from A.d_dry_minutes_from ["shore", "bed", "minute", "most"] (sp_dry_minutes_from A) := by
  refine T.dry_minutes_from.fn.ok sc_dry_minutes_from (fun vs H Q E h => ?_) (fun cdv Ar outer s H vs Q E hr h => ?_)
  · obtain ⟨f, g, a, b, t, m, rfl, _⟩ := h
    rfl
  · obtain ⟨f, g, a, b, t, mx, rfl, S, hb, k⟩ := h
    obtain ⟨dx, hs⟩ := S.sh
    refine ⟨_, (pss_cons (ps_set (i := 4) sc_dry_minutes_from.nd rfl (Or.inl rfl) pe_int)
      (pss_cons (ps_while PassesOwn.never (PW.pt (pw_and (pt_cmpR op_lt (pv 4) (pv 3) (nomark _)) (pw_and1 (pt_val (pe_meth (pv 0) T.Shore.cl T.Shore_is_dry.me (ok_Shore_is_dry T) (hr.mono (by decide)) T.Shore_is_dry.bd .nil pass0 (pa_cons (pv 1) (pa_cons (pe_op op_add (pv 2) (pv 4)) pa_nil)))))))
      (pss_one (ps_aug (i := 4) sc_dry_minutes_from.nd rfl (Or.inl rfl) pe_int ip_add)))
      (pss_one (ps_ret (pv 4))))), ?_⟩
    refine ⟨fun m σ H' => ∃ j : Nat, j ≤ mx ∧ m = mx - j ∧ σ = [some (.ref g.sh), some (.int b), some (.int t), some (.int mx), some (.int j)] ∧ H' = H ∧ ∀ i, i < j → a.dry b (t + i) = true, ⟨mx, 0, Nat.zero_le _, rfl, rfl, rfl, fun i hi => by omega⟩, ?_⟩
    rintro m σ H' ⟨j, hj, rfl, rfl, rfl, hd⟩
    refine ⟨_, rfl, _, rfl, _, _, rfl, rfl, _, rfl, ifd (fun c1 => ?_) (fun c1 => ?_)⟩
    · refine ⟨_, rfl, g.sh, dx, _, rfl, hs, F_Shore_no_is_dry, _, rfl, _, rfl, _, rfl, _, _, rfl, rfl, f, g, a, b, t + j, rfl, S, hb, _, rfl, ifb (fun c2 => ⟨_, fun _ _ z => z, ?_⟩) (fun c2 => ?_)⟩
      · refine ⟨_, rfl, _, _, rfl, rfl, mx - (j + 1), by omega, j + 1, by omega, rfl, rfl, rfl, fun i hi => ?_⟩
        by_cases q : i < j
        · exact hd i q
        · rw [show i = j by omega]
          exact c2
      · exact ⟨_, rfl, vI k (by rw [run_of hd hj (.inr c2)])⟩
    · exact iteF ⟨_, rfl, vI k (by rw [run_of hd hj (.inl (by omega))])⟩
theorem ok_first_minute (T : Tx K mg A) : FnOk P w K mg base CX0 4 A.a_first_minute A.d_first_minute ["shore", "bed", "minute", "dry"] (sp_first_minute A) := by
  refine T.first_minute.fn.ok sc_first_minute (fun vs H Q E h => ?_) (fun cdv Ar outer s H vs Q E hr h => ?_)
  · obtain ⟨f, g, a, b, t, d, rfl, _⟩ := h
    rfl
  · obtain ⟨f, g, a, b, t, d, rfl, S, hb, ht, k⟩ := h
    obtain ⟨dx, hs⟩ := S.sh
    refine ⟨_, (pss_cons (ps_for PassesOwn.never rfl (pi_range2 rfl T.n_range (pa_cons (pv 2) (pa_cons (pe_op op_add (pe_op op_add (pv 2) (pe_gi T.g_SPAN rfl)) pe_int) pa_nil))) (pg_name (i := 4) sc_first_minute.nd rfl (Or.inl rfl))
      (pss_one (ps_if (pt_cmpR op_eq (pe_meth (pv 0) T.Shore.cl T.Shore_is_dry.me (ok_Shore_is_dry T) (hr.mono (by decide)) T.Shore_is_dry.bd .nil pass0 (pa_cons (pv 1) (pa_cons (pv 4) pa_nil))) (pv 3) (nomark _))
      (pss_one (ps_ret (pv 4)))
      pss_nil)))
      (pss_one (ps_ret pe_non))), ?_⟩
    have en : ((t : Int) + 1500 + 1 - (t : Int)).toNat = 1501 := by omega
    refine ⟨_, rfl, _, rfl, _, _, rfl, rfl, _, _, rfl, rfl, (t : Int), (t : Int) + 1500 + 1, rfl, ⟨by omega, by omega, by omega, by omega⟩, ?_⟩
    rw [en]
    refine for_range (fun i σ H' => ∃ v : Option V, σ = [some (.ref g.sh), some (.int b), some (.int t), some (.bl d), v] ∧ H' = H ∧ ∀ j, j < i → (a.dry b (t + j) == d) = false) ⟨none, rfl, rfl, fun j hj => by omega⟩ ?_ ?_
    · rintro i σ H' hi ⟨v, rfl, rfl, hd⟩
      refine ⟨_, rfl, g.sh, dx, _, rfl, hs, F_Shore_no_is_dry, _, rfl, _, rfl, f, g, a, b, t + i, rfl, S, hb, _, rfl, rfl, _, rfl, ifd (fun c => ?_) (fun c => ?_)⟩
      · refine ⟨_, rfl, ?_⟩
        have e : Kv346.firstOf t (fun s => a.dry b s == d) = some (t + i) := firstOf_some hd (by injection c with c; rw [c]; exact beq_self_eq_true d) (by show i ≤ 1500; omega)
        rw [e] at k
        exact k
      · refine ⟨_, rfl, rfl, fun j hj => ?_⟩
        by_cases q : j < i
        · exact hd j q
        · rw [show j = i by omega]
          cases z : (a.dry b (t + i) == d) with
          | false => rfl
          | true => exact absurd (congrArg V.bl (eq_of_beq z)) c
    · rintro σ H' ⟨v, rfl, rfl, hd⟩
      have e : Kv346.firstOf t (fun s => a.dry b s == d) = none := firstOf_none fun j hj => hd j (by have : j ≤ 1500 := hj; omega)
      rw [e] at k
      exact k
theorem PairsAt.snoc {H : Hp} {q tp : Addr} {l : List (Nat × Nat)} {ts : List Addr} {x : Nat × Nat} (h : PairsAt H q l ts) (ht : H tp = none) :
    PairsAt (upd (upd H tp (.tup [.int (x.1 : Nat), .int (x.2 : Nat)])) q (.lst (ts.map V.ref ++ [.ref tp]))) q (l ++ [x]) (ts ++ [tp]) := by
  have n : q ≠ tp := ne_of_none h.lst ht
  refine ⟨by rw [upd_same, List.map_append]; rfl, by rw [List.length_append, List.length_append, h.len]; rfl, fun i p hp => ?_⟩
  by_cases hi : i < ts.length
  · rw [List.getElem?_append_left hi] at hp
    obtain ⟨y, e1, e2⟩ := h.at_ i p hp
    have n1 : p ≠ q := ne_of e2 h.lst (by intro z; cases z)
    have n2 : p ≠ tp := ne_of_none e2 ht
    exact ⟨y, by rw [List.getElem?_append_left (by rw [← h.len]; exact hi)]; exact e1, by rw [upd_ne n1, upd_ne n2]; exact e2⟩
  · rw [List.getElem?_append_right (by omega)] at hp
    have hj : i - ts.length = 0 := by
      have := (List.getElem?_eq_some_iff.mp hp).1
      simp at this
      omega
    rw [hj] at hp
    have e : tp = p := Option.some.inj hp
    subst e
    exact ⟨x, by rw [List.getElem?_append_right (by rw [← h.len]; omega), ← h.len, hj]; rfl, by rw [upd_ne n.symm]; exact upd_same⟩
theorem ok_dry_stretches (T : Tx K mg A) : FnOk P w K mg base CX0 5 A.a_dry_stretches A.d_dry_stretches ["shore", "bed", "minute", "how_many"] (sp_dry_stretches A) := by
  refine T.dry_stretches.fn.ok sc_dry_stretches (fun vs H Q E h => ?_) (fun cdv Ar outer s H vs Q E hr h => ?_)
  · obtain ⟨f, g, a, b, t, n, rfl, _⟩ := h
    rfl
  · obtain ⟨f, g, a, b, t, n, rfl, S, hb, hn, k⟩ := h
    refine ⟨_, (pss_cons (ps_set (i := 4) sc_dry_stretches.nd rfl (Or.inl rfl) (pe_lst pa_nil))
      (pss_cons (ps_set (i := 5) sc_dry_stretches.nd rfl (Or.inl rfl) (pe_op op_add (pv 2) (pv 3)))
      (pss_cons (ps_set (i := 6) sc_dry_stretches.nd rfl (Or.inl rfl) (pv 2))
      (pss_cons (ps_while PassesOwn.never (pt_cmpR op_lt (pv 6) (pv 5) (nomark _))
      (pss_cons (ps_set (i := 7) sc_dry_stretches.nd rfl (Or.inl rfl) (pe_call (ok_dry_minutes_from T) (hr.mono (by decide)) rfl T.dry_minutes_from.mg T.dry_minutes_from.fn.kp T.dry_minutes_from.bd .nil pass0 (pa_cons (pv 0) (pa_cons (pv 1) (pa_cons (pv 6) (pa_cons (pe_op op_sub (pv 5) (pv 6)) pa_nil))))))
      (pss_cons (ps_if (pt_cmpR op_gt (pv 7) pe_int (nomark _))
      (pss_one (ps_expr (pe_bm PySem.F.plainAttrs_list PySem.F.slot_list_append PySem.F.type_list_append mt_append (pv 4) (pa_cons (pe_tup (pa_cons (pv 6) (pa_cons (pv 7) pa_nil))) pa_nil))))
      pss_nil)
      (pss_one (ps_aug (i := 6) sc_dry_stretches.nd rfl (Or.inl rfl) (pe_op op_add (pv 7) pe_int) ip_add)))))
      (pss_one (ps_ret (pv 4))))))), ?_⟩
    refine ⟨Nat.zero_le _, fun q hq => ?_⟩
    refine ⟨_, rfl, _, rfl, _, _, rfl, rfl, ?_⟩
    refine ⟨_, rfl, ?_⟩
    refine ⟨fun m σ H' => ∃ (tr : Nat) (v : Option V) (l : List (Nat × Nat)) (ts : List Addr), m = t + n + 1 - tr ∧ σ = [some (.ref g.sh), some (.int b), some (.int t), some (.int n), some (.ref q), some (.int (t + n : Nat)), some (.int tr), v] ∧ Same H H' ∧ PairsAt H' q l ts ∧ l ++ a.stretches b tr (t + n - tr) none = a.stretches b t n none,
      ⟨n + 1, t, none, [], [], by omega, rfl, Same.rfl.new hq, ⟨upd_same, rfl, fun i p hp => by simp at hp⟩, by rw [show t + n - t = n by omega]; rfl⟩, ?_⟩
    rintro m σ H' ⟨tr, v, l, ts, rfl, rfl, SH, PA, hE⟩
    have S' := S.same SH
    refine ⟨_, rfl, _, rfl, _, _, rfl, rfl, _, rfl, ifd (fun c => ⟨_, fun _ _ z => z, ?_⟩) (fun c => ?_)⟩
    · have c' : tr < t + n := by omega
      have hstep := str_step a b tr (t + n) c'
      have hl : l.length ≤ 1000 := by
        have h1 := str_len a b n n t (Nat.le_refl _)
        rw [← hE, List.length_append] at h1
        omega
      refine ⟨_, rfl, _, rfl, _, rfl, _, rfl, _, rfl, _, _, rfl, rfl, f, g, a, b, tr, t + n - tr, (by rw [Int.natCast_sub (by omega)]; rfl), S', hb, ?_⟩
      refine ⟨_, rfl, _, _, rfl, rfl, _, rfl, ifd (fun c2 => ?_) (fun c2 => ?_)⟩
      · refine ⟨_, rfl, .inl ⟨rfl, _, SqL.of PA.lst⟩, _, rfl, _, rfl, (by show 2 ≤ sizeLine; decide), fun tp htp => ?_⟩
        have n1 : q ≠ tp := ne_of_none PA.lst htp
        refine ⟨q, _, _, rfl, rfl, (upd_ne n1).trans PA.lst, (by rw [List.length_map, PA.len]; exact line_lt (by omega)), ?_⟩
        refine ⟨_, rfl, _, rfl, _, _, rfl, rfl, _, _, rfl, rfl, t + n + 1 - (tr + (run (a.dry b) tr (t + n - tr) + 1)), by omega, tr + (run (a.dry b) tr (t + n - tr) + 1), _, l ++ [(tr, run (a.dry b) tr (t + n - tr))], ts ++ [tp], rfl, rfl, ?_, PA.snoc (x := (tr, run (a.dry b) tr (t + n - tr))) htp, ?_⟩
        · intro c o e
          have n2 : c ≠ q := ne_of_none e hq
          rw [upd_ne n2, upd_ne (ne_of_none (SH c o e) htp)]
          exact SH c o e
        · rw [← hE, hstep, if_pos (show 0 < run (a.dry b) tr (t + n - tr) by omega), List.append_assoc]
      · refine ⟨_, rfl, _, rfl, _, _, rfl, rfl, _, _, rfl, rfl, t + n + 1 - (tr + (run (a.dry b) tr (t + n - tr) + 1)), by omega, tr + (run (a.dry b) tr (t + n - tr) + 1), _, l, ts, rfl, rfl, SH, PA, ?_⟩
        rw [← hE, hstep, if_neg (show ¬ 0 < run (a.dry b) tr (t + n - tr) by omega), List.nil_append]
    · refine ⟨_, rfl, k H' q ts SH hq ?_⟩
      rw [← hE, show t + n - tr = 0 by omega, str_zero, List.append_nil]
      exact PA
end
end Dh


end
section
set_option Elab.async false
set_option linter.all false
set_option maxRecDepth 100000
set_option maxHeartbeats 2000000
/-! ### first fits, minutes counted -/
namespace Dh
open PySem PySem.Spec PyProof.Rows L2
open Kv346 (Abs Wave)
/-- the first fits of a table of waters, from each place on -/
def ffL (f : Nat → Nat) (h n m : Nat) : List V := tab m fun i => oV (ffd (fun k => decide (f k < h)) n m (m - i))
def sp_first_fits : Sp := fun vs H Q _ => ∃ (q : Addr) (m h n : Nat) (f : Nat → Nat), vs = [.ref q, .int h, .int n] ∧ H q = some (.lst (tab m fun k => .int (f k : Nat))) ∧ m ≤ 10000 ∧ Gives H (ffL f h n m) Q
def sp_first_fit (A : Ad) : Sp := fun vs H Q _ => ∃ (f : Bool) (g : Sh) (a : Abs) (b t n : Nat), vs = [.ref g.sh, .int b, .int t, .int n] ∧ ShoreAt A H g f a ∧ b < a.beds.length ∧ (1 ≤ n ∧ n ≤ 300) ∧ ∀ H' : Hp, Same H H' → Q (oV (a.fits b t n)) H'
def sp_minutes_all_dry (K : PySem.W.Frag) (A : Ad) : Sp := fun vs H Q _ => ∃ (f : Bool) (g : Sh) (a : Abs) (q : Addr) (l : List Nat) (t n : Nat), vs = [.ref g.sh, .ref q, .int t, .int n] ∧ ShoreAt A H g f a ∧ SqL K H q (nV l) ∧ l.length ≤ 6 ∧ (∀ b ∈ l, b < a.beds.length) ∧ n ≤ 1000 ∧
  ∀ H' : Hp, Same H H' → Q (.int (a.minutesOf t n (fun s => l.all fun b => a.dry b s) : Nat)) H'
def sp_one_if_dry (A : Ad) : Sp := fun vs H Q _ => ∃ (f : Bool) (g : Sh) (a : Abs) (b t : Nat), vs = [.ref g.sh, .int b, .int t] ∧ ShoreAt A H g f a ∧ b < a.beds.length ∧ Q (.int (Kv346.bit (a.dry b t) : Nat)) H
def sp_are_minutes : Sp := fun vs H Q _ => ∃ t n : Nat, vs = [.int t, .int n] ∧ Q (.bl (decide (t ≤ 100000 ∧ 1 ≤ n ∧ n ≤ 1000))) H
theorem ixN_nat {n j : Nat} (h : j < n) : ixN n (j : Int) = some j := by
  unfold ixN
  rw [if_pos (Int.natCast_nonneg j), if_pos (by omega), Int.toNat_natCast]
section
variable {P : Program} {w : World} {K : PySem.W.Frag} {mg : Str → Option Value} {base : Heap} {A : Ad}
theorem ok_first_fits (T : Tx K mg A) : FnOk P w K mg base CX0 1 A.a_first_fits A.d_first_fits ["waters", "height", "how_many"] sp_first_fits := by
  refine T.first_fits.fn.ok sc_first_fits (fun vs H Q E h => ?_) (fun cdv Ar outer s H vs Q E hr h => ?_)
  · obtain ⟨q, m, h, n, f, rfl, _⟩ := h
    rfl
  · obtain ⟨q, m, hh, n, f, rfl, hq, hm, k⟩ := h
    refine ⟨_, (pss_cons (ps_set (i := 3) sc_first_fits.nd rfl (Or.inl rfl) (pe_op op_rep (pe_lst (pa_cons pe_non pa_nil)) (pe_callB call_len_seq (by rfl) T.n_len PySem.boot_len (pa_cons (pv 0) pa_nil))))
      (pss_cons (ps_set (i := 4) sc_first_fits.nd rfl (Or.inl rfl) pe_non)
      (pss_cons (ps_set (i := 5) sc_first_fits.nd rfl (Or.inl rfl) pe_int)
      (pss_cons (ps_for PassesOwn.never rfl (pi_range3 rfl T.n_range (pa_cons (pe_op op_sub (pe_callB call_len_seq (by rfl) T.n_len PySem.boot_len (pa_cons (pv 0) pa_nil)) pe_int) (pa_cons (pe_un un_neg pe_int) (pa_cons (pe_un un_neg pe_int) pa_nil)))) (pg_name (i := 6) sc_first_fits.nd rfl (Or.inl rfl))
      (pss_cons (ps_set (i := 5) sc_first_fits.nd rfl (Or.inl rfl) (pe_ifExp (pt_cmpR op_lt (pe_ix ix_list (pv 0) (pv 6) (fun _ _ => rfl)) (pv 1) (nomark _)) (pe_op op_add (pv 5) pe_int) pe_int))
      (pss_cons (ps_if (pt_cmpR op_ge (pv 5) (pv 2) (nomark _))
      (pss_one (ps_set (i := 4) sc_first_fits.nd rfl (Or.inl rfl) (pv 6)))
      pss_nil)
      (pss_one (ps_asg (pv 4) (pg_sub (pv 3) (pv 6) set_list))))))
      (pss_one (ps_ret (pv 3))))))), ?_⟩
    refine ⟨(by show 1 ≤ sizeLine; decide), fun b0 hb0 => ?_⟩
    have nq : q ≠ b0 := ne_of_none hq hb0
    refine ⟨_, rfl, q, _, rfl, .inl (SqL.of ((upd_ne nq).trans hq)), b0, _, _, rfl, rfl, upd_same, ?_, ?_, ?_, fun fo hfo => ?_⟩
    · rw [tab_len]; omega
    · rw [tab_len]; omega
    · rw [tab_len]
      show 1 * (m : Int).toNat ≤ sizeLine
      rw [Int.toNat_natCast, Nat.one_mul]
      exact Nat.le_of_lt (line_lt (by omega))
    have SH0 : Same H (upd (upd H b0 (.lst [.non])) fo (.lst (List.replicate (((tab m fun k => V.int (f k : Nat)).length : Nat) : Int).toNat [V.non]).flatten)) := (Same.rfl.new hb0).new hfo
    have e0 : (List.replicate (((tab m fun k => V.int (f k : Nat)).length : Nat) : Int).toNat [V.non]).flatten = tab m fun k => if m - 0 ≤ k then oV (ffd (fun k => decide (f k < hh)) n m (m - k)) else V.non := by
      rw [tab_len, Int.toNat_natCast]
      refine tab_ext (by rw [rep_len]; simp) fun k hk => ?_
      rw [rep_at _ _ _ (by simpa using hk), if_neg (by omega)]
      simp [Nat.mod_one]
    have em : ((((tab m fun k => V.int (f k : Nat)).length : Nat) : Int) - 1 - (-1)).toNat = m := by rw [tab_len]; omega
    have hRg : RgC ((((tab m fun k => V.int (f k : Nat)).length : Nat) : Int) - 1) (-1) (-1) m := by
      have z := RgC.neg (i := (((tab m fun k => V.int (f k : Nat)).length : Nat) : Int) - 1) (j := -1) (by rw [tab_len]; omega) (by rw [tab_len]; omega) (by decide) (by decide)
      rw [em] at z
      exact z
    have hfo0 : H fo = none := free_upd fo hfo
    refine ⟨_, rfl, q, _, rfl, .inl (SqL.of (SH0 _ _ hq)), _, _, rfl, rfl, _, rfl, _, rfl, _, _, _, m, rfl, hRg, ?_⟩
    refine for_rangeC (fun i σ H' => ∃ v : Option V, σ = [some (.ref q), some (.int hh), some (.int n), some (.ref fo), some (oV (ffd (fun k => decide (f k < hh)) n m i)), some (.int (run (fun k => decide (f k < hh)) (m - i) i : Nat)), v] ∧ Same H H' ∧ H' fo = some (.lst (tab m fun k => if m - i ≤ k then oV (ffd (fun k => decide (f k < hh)) n m (m - k)) else V.non)))
      ⟨none, rfl, SH0, by rw [upd_same, e0]⟩ ?_ ?_
    · rintro i σ H' hi ⟨v, rfl, SH, hL⟩
      have epl : (((tab m fun k => V.int (f k : Nat)).length : Nat) : Int) - 1 + ((i : Nat) : Int) * (-1) = ((m - (i + 1) : Nat) : Int) := by rw [tab_len]; omega
      show gName 6 (.int ((((tab m fun k => V.int (f k : Nat)).length : Nat) : Int) - 1 + ((i : Nat) : Int) * (-1))) _ _ _
      rw [epl]
      have ers : m - (i + 1) + 1 = m - i := by omega
      -- the last two statements, whatever the run's length is
      have fin : ∀ r : Nat, run (fun k => decide (f k < hh)) (m - (i + 1)) (i + 1) = r → ∀ first : Option Nat, (if n ≤ r then some (m - (i + 1)) else ffd (fun k => decide (f k < hh)) n m i) = first →
          ∃ v' : Option V, [some (V.ref q), some (.int hh), some (.int n), some (.ref fo), some (oV first), some (.int (r : Nat)), some (.int ((m - (i + 1) : Nat) : Int))] = [some (V.ref q), some (.int hh), some (.int n), some (.ref fo), some (oV (ffd (fun k => decide (f k < hh)) n m (i + 1))), some (.int (run (fun k => decide (f k < hh)) (m - (i + 1)) (i + 1) : Nat)), v'] ∧
            Same H (upd H' fo (.lst ((tab m fun k => if m - i ≤ k then oV (ffd (fun k => decide (f k < hh)) n m (m - k)) else V.non).set (m - (i + 1)) (oV first)))) ∧
            upd H' fo (.lst ((tab m fun k => if m - i ≤ k then oV (ffd (fun k => decide (f k < hh)) n m (m - k)) else V.non).set (m - (i + 1)) (oV first))) fo = some (.lst (tab m fun k => if m - (i + 1) ≤ k then oV (ffd (fun k => decide (f k < hh)) n m (m - k)) else V.non)) := by
        intro r hr first hf
        have ef : ffd (fun k => decide (f k < hh)) n m (i + 1) = first := by rw [← hf, ← hr]; rfl
        refine ⟨some (.int ((m - (i + 1) : Nat) : Int)), by rw [ef, hr], SH.put hfo0, ?_⟩
        rw [upd_same]
        congr 2
        refine tab_ext (by rw [List.length_set, tab_len]) fun j hj => ?_
        by_cases z : m - (i + 1) = j
        · subst z
          rw [List.getElem?_set_self (by rw [tab_len]; exact hj), if_pos (Nat.le_refl _), show m - (m - (i + 1)) = i + 1 by omega, ef]
        · rw [List.getElem?_set_ne z, tab_at hj]
          by_cases z2 : m - i ≤ j
          · rw [if_pos z2, if_pos (by omega)]
          · rw [if_neg z2, if_neg (by omega)]
      refine ⟨_, rfl, _, rfl, q, _, _, _, rfl, rfl, SqL.of (SH _ _ hq), atI_nat (tab_at (by omega)), _, rfl, _, _, rfl, rfl, _, rfl, ifd (fun c => ?_) (fun c => ?_)⟩
      · have hr := run_t (p := fun k => decide (f k < hh)) (t := m - (i + 1)) (n := i) (decide_eq_true (by omega))
        rw [ers] at hr
        refine ⟨_, rfl, _, _, rfl, rfl, ?_⟩
        refine ⟨_, rfl, _, rfl, _, _, rfl, rfl, _, rfl, ifd (fun c2 => ?_) (fun c2 => ?_)⟩
        · refine ⟨_, rfl, ?_⟩
          exact ⟨_, rfl, _, rfl, _, rfl, fo, _, _, m - (i + 1), rfl, rfl, hL, by rw [tab_len]; exact ixN_nat (by omega), fin _ hr (some (m - (i + 1))) (if_pos (by omega))⟩
        · exact ⟨_, rfl, _, rfl, _, rfl, fo, _, _, m - (i + 1), rfl, rfl, hL, by rw [tab_len]; exact ixN_nat (by omega), fin _ hr _ (if_neg (by omega))⟩
      · have hr := run_f (p := fun k => decide (f k < hh)) (t := m - (i + 1)) (n := i) (decide_eq_false (by omega))
        refine ⟨_, rfl, _, rfl, _, _, rfl, rfl, _, rfl, ifd (fun c2 => ?_) (fun c2 => ?_)⟩
        · refine ⟨_, rfl, ?_⟩
          exact ⟨_, rfl, _, rfl, _, rfl, fo, _, _, m - (i + 1), rfl, rfl, hL, by rw [tab_len]; exact ixN_nat (by omega), fin 0 hr (some (m - (i + 1))) (if_pos (by omega))⟩
        · exact ⟨_, rfl, _, rfl, _, rfl, fo, _, _, m - (i + 1), rfl, rfl, hL, by rw [tab_len]; exact ixN_nat (by omega), fin 0 hr _ (if_neg (by omega))⟩
    · rintro σ H' ⟨v, rfl, SH, hL⟩
      refine ⟨_, rfl, k H' fo SH (free_upd fo hfo) ?_⟩
      rw [hL]
      congr 2
      exact tab_congr fun j hj => if_pos (by omega)
theorem ok_first_fit (T : Tx K mg A) : FnOk P w K mg base CX0 3 A.a_first_fit A.d_first_fit ["shore", "bed", "minute", "how_many"] (sp_first_fit A) := by
  refine T.first_fit.fn.ok sc_first_fit (fun vs H Q E h => ?_) (fun cdv Ar outer s H vs Q E hr h => ?_)
  · obtain ⟨f, g, a, b, t, n, rfl, _⟩ := h
    rfl
  · obtain ⟨f, g, a, b, t, n, rfl, S, hb, ⟨hn1, hn2⟩, k⟩ := h
    obtain ⟨dx, hs⟩ := S.sh
    refine ⟨_, (pss_cons (ps_set (i := 4) sc_first_fit.nd rfl (Or.inl rfl) (pe_meth (pv 0) T.Shore.cl T.Shore_waters_from.me (ok_Shore_waters_from T) (hr.mono (by decide)) T.Shore_waters_from.bd .nil pass0 (pa_cons (pv 2) (pa_cons (pe_op op_add (pe_gi T.g_SPAN rfl) (pv 3)) pa_nil))))
      (pss_cons (ps_set (i := 5) sc_first_fit.nd rfl (Or.inl rfl) (pe_ix ix_list (pe_call (ok_first_fits T) (hr.mono (by decide)) rfl T.first_fits.mg T.first_fits.fn.kp T.first_fits.bd .nil pass0 (pa_cons (pv 4) (pa_cons (pe_fld (pe_ix ix_list (pe_fld (pv 0) rfl) (pv 1) (fun _ _ => rfl)) rfl) (pa_cons (pv 3) pa_nil)))) pe_int (fun _ _ => rfl)))
      (pss_cons (ps_if (pt_cmpR op_isN (pv 5) pe_non (nomark _))
      (pss_one (ps_ret pe_non))
      pss_nil)
      (pss_one (ps_ret (pe_op op_add (pv 2) (pv 5))))))), ?_⟩
    refine ⟨_, rfl, g.sh, dx, _, rfl, hs, F_Shore_no_waters_from, _, rfl, _, rfl, _, _, rfl, rfl, f, g, a, t, 1500 + n, rfl, S, by omega, fun H1 q1 SH1 hq1 hL1 => ?_⟩
    have S1 := S.same SH1
    obtain ⟨d1, hs1⟩ := S1.sh
    obtain ⟨p, hp, db, hB⟩ := S1.bed hb
    refine ⟨_, rfl, _, rfl, _, _, _, _, _, rfl, hs1, T.Shore.cl, T.f_Shore_beds, F_Shore_beds, _, rfl, g.bl, _, _, V.ref p, rfl, rfl, SqL.of S1.bl, atI_nat (at_map hp), _, _, _, _, _, rfl, hB, T.Bed.cl, T.f_Bed_height, F_Bed_height, _, rfl, q1, 1500 + n, a.bed b, n, fun k => a.height (t + k), rfl, hL1, by omega, fun H2 q2 SH2 hq2 hL2 => ?_⟩
    have hat : (ffL (fun k => a.height (t + k)) (a.bed b) n (1500 + n))[0]? = some (oV (ffd (fun k => a.dry b (t + k)) n (1500 + n) (1500 + n - 0))) := tab_at (by omega)
    refine ⟨q2, _, _, _, rfl, rfl, SqL.of hL2, atI_nat (j := 0) hat, ?_⟩
    cases e : ffd (fun k => a.dry b (t + k)) n (1500 + n) (1500 + n - 0) with
    | none =>
      have e2 := fits_none (a := a) (b := b) (t := t) (n := n) (m := 1500 + n) (i := 0) hn1 (by show 0 + 1500 + n ≤ _; omega) (fun j hj => by rw [e] at hj; cases hj)
      rw [Nat.add_zero] at e2
      rw [e2] at k
      exact ⟨_, rfl, rfl, _, rfl, iteT (k _ (SH1.trans SH2))⟩
    | some j =>
      have hj := ffd_le (by omega) e
      have e2 := fits_some (a := a) (b := b) (t := t) (n := n) (m := 1500 + n) (i := 0) hn1 (by show 0 + 1500 + n ≤ _; omega) e (by show j ≤ 0 + 1500; omega)
      rw [Nat.add_zero] at e2
      rw [e2] at k
      exact ⟨_, rfl, rfl, _, rfl, iteF ⟨_, rfl, _, rfl, _, _, rfl, rfl, k _ (SH1.trans SH2)⟩⟩
theorem ok_minutes_all_dry (T : Tx K mg A) : FnOk P w K mg base CX0 3 A.a_minutes_all_dry A.d_minutes_all_dry ["shore", "beds", "minute", "how_many"] (sp_minutes_all_dry K A) := by
  refine T.minutes_all_dry.fn.ok sc_minutes_all_dry (fun vs H Q E h => ?_) (fun cdv Ar outer s H vs Q E hr h => ?_)
  · obtain ⟨f, g, a, q, l, t, n, rfl, _⟩ := h
    rfl
  · obtain ⟨f, g, a, q, l, t, n, rfl, S, hq, hl, hbs, hn, k⟩ := h
    refine ⟨_, (pss_cons (ps_setLc (i := 4) rfl sc_minutes_all_dry.nd rfl rfl (sw_true rfl rfl rfl rfl) (pi_list (pv 1)) (blkOk_by (N := ["shore", "beds", "minute", "how_many", "heights", "bed", "counted", "water", "height"]) (sc := defScope s_minutes_all_dry) (own := [("bed", 5)]) (by decide +kernel)) (fun _ _ _ _ _ => (pg_name (i := 5) sc_minutes_all_dry.nd rfl (Or.inl rfl) (Or.inr rfl))) (fun _ _ _ _ _ => pts_nil) (fun _ _ _ _ _ => (pe_fldK (K := K) rfl (pe_ix (ix_listK (K := K) rfl) (pe_fldK (K := K) rfl (pv 0) rfl) (pv 5) (fun _ _ => rfl)) rfl)))
      (pss_cons (ps_set (i := 6) sc_minutes_all_dry.nd rfl (Or.inl rfl) pe_int)
      (pss_cons (ps_for PassesOwn.never rfl (pi_list (pe_meth (pv 0) T.Shore.cl T.Shore_waters_from.me (ok_Shore_waters_from T) (hr.mono (by decide)) T.Shore_waters_from.bd .nil pass0 (pa_cons (pv 2) (pa_cons (pv 3) pa_nil)))) (pg_name (i := 7) sc_minutes_all_dry.nd rfl (Or.inr rfl))
      (pss_one (ps_if (pt_val (pe_callB (cr_all rfl) (by rfl) T.n_all PyProof.Rows.boot_all (pa_cons (pe_lc rfl sc_minutes_all_dry.nd (pi_list (pv 4)) (blkOk_by (N := ["shore", "beds", "minute", "how_many", "heights", "bed", "counted", "water", "height"]) (sc := defScope s_minutes_all_dry) (own := [("height", 8)]) (by decide +kernel)) (fun _ _ _ _ _ => (pg_name (i := 8) sc_minutes_all_dry.nd rfl (Or.inl rfl) (Or.inr rfl))) (fun _ _ _ _ _ => pts_nil) (fun _ _ _ _ _ => (pe_cmpR op_lt (pv 7) (pv 8) (nomark _)))) pa_nil)))
      (pss_one (ps_aug (i := 6) sc_minutes_all_dry.nd rfl (Or.inl rfl) pe_int ip_add))
      pss_nil)))
      (pss_one (ps_ret (pv 6)))))), ?_⟩
    refine ⟨_, rfl, q, rfl, ⟨_, hq⟩, fun D hD => ?_⟩
    refine lc_list (K := K) (xs := nV l) (fun i H' => Same H H' ∧ H' D = some (.lst (nV ((l.take i).map a.bed)))) ⟨Same.rfl.new hD, upd_same⟩ (fun i H' _ z => SqL.same hq z.1) ?_ ?_
    · rintro i x H' hx ⟨SH, hL⟩
      obtain ⟨b, hb, rfl⟩ := nV_at hx
      have S1 := S.same SH
      obtain ⟨d1, hs1⟩ := S1.sh
      obtain ⟨p, hp, db, hB⟩ := S1.bed (hbs b (List.mem_of_getElem? hb))
      refine ⟨rfl, yes (iteT ?_)⟩
      refine ⟨_, rfl, _, _, _, _, _, rfl, hs1, T.Shore.cl, T.f_Shore_beds, F_Shore_beds, _, rfl, g.bl, _, _, V.ref p, rfl, rfl, SqL.of S1.bl, atI_nat (at_map hp), _, _, _, _, _, rfl, hB, T.Bed.cl, T.f_Bed_height, F_Bed_height, _, hL, ?_, SH.put hD, ?_⟩
      · rw [List.length_map, List.length_map]
        exact line_lt (by have := List.length_take_le' i l; omega)
      · rw [upd_same, take_snoc hb, List.map_append]
        unfold nV
        rw [List.map_append]
        rfl
    rintro H1 ⟨SH1, hL1⟩
    rw [List.length_map, List.take_length] at hL1
    have S1 := S.same SH1
    obtain ⟨d1, hs1⟩ := S1.sh
    refine ⟨_, rfl, g.sh, d1, _, rfl, hs1, F_Shore_no_waters_from, _, rfl, _, rfl, f, g, a, t, n, rfl, S1, by omega, fun H2 q2 SH2 hq2 hL2 => ?_⟩
    have hL12 := SH2 _ _ hL1
    refine ⟨q2, rfl, ⟨_, SqL.of hL2⟩, for_list (K := K) (a := q2) (xs := tab n fun k => .int (a.height (t + k) : Nat)) (fun i σ H' => ∃ v1 v2 v3 : Option V, σ = [some (.ref g.sh), some (.ref q), some (.int t), some (.int n), some (.ref D), v1, some (.int (a.minutesOf t i (fun s => l.all fun b => a.dry b s) : Nat)), v2, v3] ∧ Same H2 H')
      ⟨none, none, none, rfl, Same.rfl⟩ (fun i σ H' _ ⟨_, _, _, _, e⟩ => SqL.of (e _ _ hL2)) ?_ ?_⟩
    · rintro i y σ H' hi ⟨v1, v2, v3, rfl, SH⟩
      obtain ⟨hin, rfl⟩ := tab_inv hi
      have hLn := SH _ _ hL12
      refine ⟨_, rfl, D, rfl, ⟨_, SqL.of hLn⟩, fun D2 hD2 => ?_⟩
      refine lc_list (K := K) (xs := nV (l.map a.bed)) (fun j H3 => Same H' H3 ∧ H3 D2 = some (.lst ((l.take j).map fun b => .bl (a.dry b (t + i))))) ⟨Same.rfl.new hD2, upd_same⟩ (fun j H3 _ z => SqL.of (z.1 _ _ hLn)) ?_ ?_
      · rintro j x H3 hx ⟨SH3, hL3⟩
        obtain ⟨z, hz, rfl⟩ := nV_at hx
        rw [List.getElem?_map] at hz
        cases eb : l[j]? with
        | none => rw [eb] at hz; cases hz
        | some b =>
          rw [eb] at hz
          have ez : a.bed b = z := Option.some.inj hz
          subst ez
          refine ⟨rfl, yes (iteT ?_)⟩
          refine ⟨_, rfl, _, rfl, _, _, rfl, rfl, _, hL3, ?_, SH3.put hD2, ?_⟩
          · rw [List.length_map]
            exact line_lt (by have := List.length_take_le' j l; omega)
          · rw [upd_same, take_snoc eb, List.map_append]
            congr 3
            show [V.bl (decide ((a.height (t + i) : Int) < (a.bed b : Int)))] = [V.bl (decide (a.height (t + i) < a.bed b))]
            rw [decide_eq_decide.mpr (show ((a.height (t + i) : Int) < (a.bed b : Int)) ↔ a.height (t + i) < a.bed b by omega)]
      · rintro H3 ⟨SH3, hL3⟩
        rw [List.length_map, List.length_map, List.take_length] at hL3
        refine ⟨D2, l.map fun b => a.dry b (t + i), rfl, SqL.of (by rw [List.map_map]; exact hL3), _, rfl, ?_⟩
        have e : (l.map fun b => a.dry b (t + i)).all id = l.all fun b => a.dry b (t + i) := by rw [List.all_map]; rfl
        rw [e]
        refine ifb (fun c => ?_) (fun c => ?_)
        · refine ⟨_, rfl, _, _, rfl, rfl, v1, some (.int (a.height (t + i) : Nat)), v3, ?_, SH.trans SH3⟩
          rw [min_succ, c]
          rfl
        · refine ⟨v1, some (.int (a.height (t + i) : Nat)), v3, ?_, SH.trans SH3⟩
          rw [min_succ, c]
          rfl
    · rintro σ H' ⟨v1, v2, v3, rfl, SH⟩
      exact ⟨_, rfl, by rw [tab_len]; exact k _ ((SH1.trans SH2).trans SH)⟩
theorem ok_one_if_dry (T : Tx K mg A) : FnOk P w K mg base CX0 4 A.a_one_if_dry A.d_one_if_dry ["shore", "bed", "minute"] (sp_one_if_dry A) := by
  refine T.one_if_dry.fn.ok sc_one_if_dry (fun vs H Q E h => ?_) (fun cdv Ar outer s H vs Q E hr h => ?_)
  · obtain ⟨f, g, a, b, t, rfl, _⟩ := h
    rfl
  · obtain ⟨f, g, a, b, t, rfl, S, hb, k⟩ := h
    obtain ⟨dx, hs⟩ := S.sh
    refine ⟨_, (pss_one (ps_ret (pe_ifExp (pt_val (pe_meth (pv 0) T.Shore.cl T.Shore_is_dry.me (ok_Shore_is_dry T) (hr.mono (by decide)) T.Shore_is_dry.bd .nil pass0 (pa_cons (pv 1) (pa_cons (pv 2) pa_nil)))) pe_int pe_int))), ?_⟩
    refine ⟨_, rfl, g.sh, dx, _, rfl, hs, F_Shore_no_is_dry, _, rfl, _, rfl, f, g, a, b, t, rfl, S, hb, _, rfl, ifb (fun c => ?_) (fun c => ?_)⟩
    · rw [c] at k
      exact k
    · rw [c] at k
      exact k
theorem ok_are_minutes (T : Tx K mg A) : FnOk P w K mg base CX0 2 A.a_are_minutes A.d_are_minutes ["minute", "how_many"] sp_are_minutes := by
  refine T.are_minutes.fn.ok sc_are_minutes (fun vs H Q E h => ?_) (fun cdv Ar outer s H vs Q E hr h => ?_)
  · obtain ⟨t, n, rfl, _⟩ := h
    rfl
  · obtain ⟨t, n, rfl, k⟩ := h
    refine ⟨_, (pss_one (ps_ret (pe_and (pe_call (ok_is_minute T) (hr.mono (by decide)) rfl T.is_minute.mg T.is_minute.fn.kp T.is_minute.bd .nil pass0 (pa_cons (pv 0) pa_nil)) (pe_one (pe_call (ok_is_how_many T) (hr.mono (by decide)) rfl T.is_how_many.mg T.is_how_many.fn.kp T.is_how_many.bd .nil pass0 (pa_cons (pv 1) pa_nil)))))), ?_⟩
    refine ⟨_, rfl, t, rfl, _, rfl, ifd (fun c => ?_) (fun c => ?_)⟩
    · exact ⟨_, rfl, n, rfl, bE k (by omega)⟩
    · exact bF k (by omega)
end
end Dh


end
section
set_option Elab.async false
set_option linter.all false
set_option maxRecDepth 100000
set_option maxHeartbeats 2000000
/-! ### the calls that change, the calls that look -/
namespace Dh
open PySem PySem.Spec PyProof.Rows L2
open Kv346 (Abs Wave)
/-- a begun shore answers a call as the specification says -/
def Does (A : Ad) (H : Hp) (g : Sh) (a : Abs) (c : Kv346.Call) (Q : VK) : Prop := Changes A H g true (stOf a c) (outOf a c) Q
section
variable {A : Ad} {H H1 : Hp} {g g1 : Sh} {a a' : Abs} {c : Kv346.Call} {Q : VK} {ans : Kv346.Ans} {z : Int} {xs : List V} {p : Addr}
theorem Does.to (k : Does A H g a c Q) (d : a.does c = (a', ans)) : Changes A H g true a' (Kv346Neutral.row ans) Q := by
  unfold Does stOf outOf at k
  rw [d] at k
  exact k
/-- the answer of a call that changes nothing -/
theorem tells (S : ShoreAt A H g true a) (k : Does A H g a c Q) (d : a.does c = (a, ans)) (SH : Same H H1) (e : xs = (Kv346Neutral.row ans).map V.int) (hp : H1 p = none) : Q (.ref p) (upd H1 p (.lst xs)) :=
  looks_new (changes_of_looks S (k.to d)) SH e hp
theorem refuses (S : ShoreAt A H g true a) (k : Does A H g a c Q) (d : a.does c = (a, Kv346.say z)) : (1 : Nat) ≤ sizeLine ∧ ∀ p, H p = none → Q (.ref p) (upd H p (.lst [.int z])) :=
  ⟨by decide, fun p hp => tells S k d Same.rfl rfl hp⟩
/-- the answer of a call that changes the shore -/
theorem changed (k : Does A H g a c Q) (d : a.does c = (a', ans)) (S : ShoreAt A H1 g1 true a') (es : g1.sh = g.sh) (kp : Keeps H H1 g g1) (fr : ∀ b, H1 b = none → H b = none) (e : xs = (Kv346Neutral.row ans).map V.int) (hp : H1 p = none) : Q (.ref p) (upd H1 p (.lst xs)) :=
  changes_new (k.to d) S es kp fr e hp
/-- one object of the shore changes -/
theorem keeps_upd {o : HO} (m : p ∈ g.fp) : Keeps H (upd H p o) g g := fun b u e n => ⟨by rw [upd_ne (fun q => n (by rw [q]; exact m))]; exact e, n⟩
end
def sp_begin (A : Ad) : Sp := fun vs H Q _ => ∃ (f : Bool) (g : Sh) (a : Abs) (b : Nat), vs = [.ref g.sh, .int b] ∧ ShoreAt A H g f a ∧ (b ≤ 10000 → Changes A H g true (Kv346.begun b) [0] Q) ∧ (¬ b ≤ 10000 → Looks H [-22] Q)
def sp_add_wave (A : Ad) : Sp := fun vs H Q _ => ∃ (g : Sh) (a : Abs) (e h l : Nat), vs = [.ref g.sh, .int e, .int h, .int l] ∧ ShoreAt A H g true a ∧ Does A H g a (.wave e h l) Q
def sp_add_bed (A : Ad) : Sp := fun vs H Q _ => ∃ (g : Sh) (a : Abs) (h : Nat), vs = [.ref g.sh, .int h] ∧ ShoreAt A H g true a ∧ Does A H g a (.bed h) Q
def sp_raise_bed (A : Ad) : Sp := fun vs H Q _ => ∃ (g : Sh) (a : Abs) (b h : Nat), vs = [.ref g.sh, .int b, .int h] ∧ ShoreAt A H g true a ∧ b < a.beds.length ∧ Does A H g a (.raise b h) Q
def sp_pass_minutes (A : Ad) : Sp := fun vs H Q _ => ∃ (g : Sh) (a : Abs) (n : Nat), vs = [.ref g.sh, .int n] ∧ ShoreAt A H g true a ∧ Does A H g a (.minutes n) Q
def sp_work_at_bed (A : Ad) : Sp := fun vs H Q _ => ∃ (g : Sh) (a : Abs) (b n : Nat), vs = [.ref g.sh, .int b, .int n] ∧ ShoreAt A H g true a ∧ b < a.beds.length ∧ Does A H g a (.work b n) Q
def sp_tell_height (A : Ad) : Sp := fun vs H Q _ => ∃ (g : Sh) (a : Abs) (t : Nat), vs = [.ref g.sh, .int t] ∧ ShoreAt A H g true a ∧ Does A H g a (.height t) Q
def sp_tell_dry (A : Ad) : Sp := fun vs H Q _ => ∃ (g : Sh) (a : Abs) (b t : Nat), vs = [.ref g.sh, .int b, .int t] ∧ ShoreAt A H g true a ∧ b < a.beds.length ∧ Does A H g a (.dry b t) Q
def sp_tell_next (A : Ad) : Sp := fun vs H Q _ => ∃ (g : Sh) (a : Abs) (b t : Nat), vs = [.ref g.sh, .int b, .int t] ∧ ShoreAt A H g true a ∧ b < a.beds.length ∧ Does A H g a (.next b t) Q
def sp_tell_wet (A : Ad) : Sp := fun vs H Q _ => ∃ (g : Sh) (a : Abs) (b t : Nat), vs = [.ref g.sh, .int b, .int t] ∧ ShoreAt A H g true a ∧ b < a.beds.length ∧ Does A H g a (.wet b t) Q
def sp_tell_lasts (A : Ad) : Sp := fun vs H Q _ => ∃ (g : Sh) (a : Abs) (b t : Nat), vs = [.ref g.sh, .int b, .int t] ∧ ShoreAt A H g true a ∧ b < a.beds.length ∧ Does A H g a (.lasts b t) Q
def sp_tell_fits (A : Ad) : Sp := fun vs H Q _ => ∃ (g : Sh) (a : Abs) (b t n : Nat), vs = [.ref g.sh, .int b, .int t, .int n] ∧ ShoreAt A H g true a ∧ b < a.beds.length ∧ Does A H g a (.fits b t n) Q
def sp_tell_longest (A : Ad) : Sp := fun vs H Q _ => ∃ (g : Sh) (a : Abs) (b t n : Nat), vs = [.ref g.sh, .int b, .int t, .int n] ∧ ShoreAt A H g true a ∧ b < a.beds.length ∧ Does A H g a (.longest b t n) Q
section
variable {P : Program} {w : World} {K : PySem.W.Frag} {mg : Str → Option Value} {base : Heap} {A : Ad}
theorem one_line : (1 : Nat) ≤ sizeLine := by decide
theorem two_line : (2 : Nat) ≤ sizeLine := by decide
theorem ok_begin (T : Tx K mg A) : FnOk P w K mg base CX0 2 A.a_begin A.d_begin ["shore", "base"] (sp_begin A) := by
  refine T.begin.fn.ok sc_begin (fun vs H Q E h => ?_) (fun cdv Ar outer s H vs Q E hr h => ?_)
  · obtain ⟨f, g, a, b, rfl, _⟩ := h
    rfl
  · obtain ⟨f, g, a, b, rfl, S, k1, k2⟩ := h
    obtain ⟨dx, hs⟩ := S.sh
    refine ⟨_, (pss_cons (ps_if (pt_cmpR op_gt (pv 1) (pe_gi T.g_HIGHEST_BASE rfl) (nomark _))
      (pss_one (ps_ret (pe_lst (pa_cons (pe_gi T.g_OUT_OF_RANGE rfl) pa_nil))))
      pss_nil)
      (pss_cons (ps_expr (pe_meth (pv 0) T.Shore.cl T.Shore_begin_afresh.me (ok_Shore_begin_afresh T) (hr.mono (by decide)) T.Shore_begin_afresh.bd .nil pass0 (pa_cons (pv 1) pa_nil)))
      (pss_one (ps_ret (pe_lst (pa_cons pe_int pa_nil)))))), ?_⟩
    refine ⟨_, rfl, _, _, rfl, rfl, _, rfl, ifd (fun c => ?_) (fun c => ?_)⟩
    · exact ⟨one_line, fun p hp => looks_new (k2 (by omega)) Same.rfl rfl hp⟩
    · refine ⟨_, rfl, g.sh, dx, _, rfl, hs, F_Shore_no_begin_afresh, _, rfl, g.sh, dx, _, _, _, _, _, b, rfl, hs, fun H1 B => ?_⟩
      obtain ⟨wl, bl, h1, h2, h3, n, kp, fr⟩ := B
      refine ⟨one_line, fun p hp => changes_new (k1 (by omega)) (ShoreAt.fresh (by omega) h1 h2 h3 n) rfl (fun c o e m => ?_) fr rfl hp⟩
      have m1 : c ≠ g.sh := fun q => m (mem_fp.mpr (.inl q))
      obtain ⟨e1, n1, n2⟩ := kp c o e m1
      refine ⟨e1, fun m2 => ?_⟩
      rcases mem_fp.mp m2 with q | q | q | q | q
      · exact m1 q
      · exact n1 q
      · exact n2 q
      · cases q
      · cases q
theorem ok_add_wave (T : Tx K mg A) : FnOk P w K mg base CX0 3 A.a_add_wave A.d_add_wave ["shore", "each", "high", "low"] (sp_add_wave A) := by
  refine T.add_wave.fn.ok sc_add_wave (fun vs H Q E h => ?_) (fun cdv Ar outer s H vs Q E hr h => ?_)
  · obtain ⟨g, a, e, h, l, rfl, _⟩ := h
    rfl
  · obtain ⟨g, a, e, h, l, rfl, S, k⟩ := h
    obtain ⟨dx, hs⟩ := S.sh
    refine ⟨_, (pss_cons (ps_if (pt_not (pt_val (pe_call (ok_is_wave T) (hr.mono (by decide)) rfl T.is_wave.mg T.is_wave.fn.kp T.is_wave.bd .nil pass0 (pa_cons (pv 1) (pa_cons (pv 2) (pa_cons (pv 3) pa_nil))))))
      (pss_one (ps_ret (pe_lst (pa_cons (pe_gi T.g_OUT_OF_RANGE rfl) pa_nil))))
      pss_nil)
      (pss_cons (ps_if (pt_cmpR op_ge (pe_callB call_len_seq (by rfl) T.n_len PySem.boot_len (pa_cons (pe_fld (pv 0) rfl) pa_nil)) (pe_gi T.g_MOST_WAVES rfl) (nomark _))
      (pss_one (ps_ret (pe_lst (pa_cons (pe_gi T.g_TOO_MANY rfl) pa_nil))))
      pss_nil)
      (pss_cons (ps_expr (pe_bm PySem.F.plainAttrs_list PySem.F.slot_list_append PySem.F.type_list_append mt_append (pe_fld (pv 0) rfl) (pa_cons (pe_make T.Wave.made (ok_Wave_init T) (hr.mono (by decide)) rfl T.Wave.mg T.Wave_init.bd .nil pass0 (pa_cons (pv 1) (pa_cons (pv 2) (pa_cons (pv 3) pa_nil)))) pa_nil)))
      (pss_one (ps_ret (pe_lst (pa_cons (pe_op op_sub (pe_callB call_len_seq (by rfl) T.n_len PySem.boot_len (pa_cons (pe_fld (pv 0) rfl) pa_nil)) pe_int) pa_nil))))))), ?_⟩
    refine ⟨_, rfl, _, rfl, _, rfl, e, h, l, rfl, _, rfl, ifn (fun c1 => refuses S k (d_wave_bad c1)) (fun c1 => ?_)⟩
    refine ⟨_, rfl, _, _, _, _, _, rfl, hs, T.Shore.cl, T.f_Shore_waves, F_Shore_waves, _, _, rfl, .inl (SqL.of S.wl), _, _, rfl, rfl, _, rfl, ifd (fun c2 => refuses S k (d_wave_many c1 ?_)) (fun c2 => ?_)⟩
    · rw [List.length_map, S.wlen] at c2
      omega
    · rw [List.length_map, S.wlen] at c2
      refine ⟨_, rfl, _, _, _, _, _, rfl, hs, T.Shore.cl, T.f_Shore_waves, F_Shore_waves, .inl ⟨rfl, _, SqL.of S.wl⟩, _, rfl, _, rfl, _, rfl, fun x dw hx hd ne => ⟨x, dw, e, h, l, rfl, upd_same, ⟨c1.1, c1.2.1, c1.2.2.2.1⟩, fun H1 la hW hla kp => ⟨rfl, ?_⟩⟩⟩
      have SH : Same H H1 := Same.made hx hd kp
      refine ⟨g.wl, _, _, rfl, rfl, SH _ _ S.wl, (by rw [List.length_map, S.wlen]; exact line_lt (by omega)), ?_⟩
      have S2 := S.add_wave (w := ⟨e, h, l⟩) (by omega) ⟨c1.1, c1.2.1, c1.2.2.2.1, c1.2.2.2.2⟩ SH hW
      obtain ⟨d2, hs2⟩ := S2.sh
      refine ⟨_, rfl, _, _, _, _, _, rfl, hs2, T.Shore.cl, T.f_Shore_waves, F_Shore_waves, _, _, rfl, .inl (SqL.of S2.wl), _, _, rfl, rfl, one_line, fun p hp => changed k (d_wave c1 (by omega)) S2 rfl (fun b o q m => ⟨?_, fun m2 => ?_⟩) (fun b q => SH.free (free_upd b q)) ?_ hp⟩
      · rw [upd_ne (fun z => m (mem_fp.mpr (.inr (.inl z))))]
        exact SH b o q
      · rcases mem_fp.mp m2 with z | z | z | z | z
        · exact m (mem_fp.mpr (.inl z))
        · exact m (mem_fp.mpr (.inr (.inl z)))
        · exact m (mem_fp.mpr (.inr (.inr (.inl z))))
        · exact m (mem_fp.mpr (.inr (.inr (.inr (.inl z)))))
        · rcases List.mem_append.mp z with z | z
          · exact m (mem_fp.mpr (.inr (.inr (.inr (.inr z)))))
          · have : b = la := by simpa using z
            rw [this, free_upd la (free_upd la hla)] at q
            cases q
      · show [V.int ((((g.ws ++ [x]).map V.ref).length : Int) - 1)] = [V.int (a.waves.length : Int)]
        rw [List.length_map, List.length_append, S.wlen, List.length_singleton, show ((a.waves.length + 1 : Nat) : Int) - 1 = (a.waves.length : Int) by omega]
theorem ok_add_bed (T : Tx K mg A) : FnOk P w K mg base CX0 3 A.a_add_bed A.d_add_bed ["shore", "height"] (sp_add_bed A) := by
  refine T.add_bed.fn.ok sc_add_bed (fun vs H Q E h => ?_) (fun cdv Ar outer s H vs Q E hr h => ?_)
  · obtain ⟨g, a, h, rfl, _⟩ := h
    rfl
  · obtain ⟨g, a, h, rfl, S, k⟩ := h
    obtain ⟨dx, hs⟩ := S.sh
    refine ⟨_, (pss_cons (ps_if (pt_not (pt_val (pe_call (ok_is_bed_height T) (hr.mono (by decide)) rfl T.is_bed_height.mg T.is_bed_height.fn.kp T.is_bed_height.bd .nil pass0 (pa_cons (pv 1) pa_nil))))
      (pss_one (ps_ret (pe_lst (pa_cons (pe_gi T.g_OUT_OF_RANGE rfl) pa_nil))))
      pss_nil)
      (pss_cons (ps_if (pt_cmpR op_ge (pe_callB call_len_seq (by rfl) T.n_len PySem.boot_len (pa_cons (pe_fld (pv 0) rfl) pa_nil)) (pe_gi T.g_MOST_BEDS rfl) (nomark _))
      (pss_one (ps_ret (pe_lst (pa_cons (pe_gi T.g_TOO_MANY rfl) pa_nil))))
      pss_nil)
      (pss_cons (ps_expr (pe_bm PySem.F.plainAttrs_list PySem.F.slot_list_append PySem.F.type_list_append mt_append (pe_fld (pv 0) rfl) (pa_cons (pe_make T.Bed.made (ok_Bed_init T) (hr.mono (by decide)) rfl T.Bed.mg T.Bed_init.bd .nil pass0 (pa_cons (pv 1) pa_nil)) pa_nil)))
      (pss_one (ps_ret (pe_lst (pa_cons (pe_op op_sub (pe_callB call_len_seq (by rfl) T.n_len PySem.boot_len (pa_cons (pe_fld (pv 0) rfl) pa_nil)) pe_int) pa_nil))))))), ?_⟩
    refine ⟨_, rfl, h, rfl, _, rfl, ifn (fun c1 => refuses S k (d_bed_bad c1)) (fun c1 => ?_)⟩
    refine ⟨_, rfl, _, _, _, _, _, rfl, hs, T.Shore.cl, T.f_Shore_beds, F_Shore_beds, _, _, rfl, .inl (SqL.of S.bl), _, _, rfl, rfl, _, rfl, ifd (fun c2 => refuses S k (d_bed_many c1 ?_)) (fun c2 => ?_)⟩
    · rw [List.length_map, S.blen] at c2
      omega
    · rw [List.length_map, S.blen] at c2
      refine ⟨_, rfl, _, _, _, _, _, rfl, hs, T.Shore.cl, T.f_Shore_beds, F_Shore_beds, .inl ⟨rfl, _, SqL.of S.bl⟩, _, rfl, fun x dw hx hd ne => ⟨x, dw, h, rfl, upd_same, fun H1 hB kp => ⟨rfl, ?_⟩⟩⟩
      have SH : Same H H1 := Same.made hx hd kp
      refine ⟨g.bl, _, _, rfl, rfl, SH _ _ S.bl, (by rw [List.length_map, S.blen]; exact line_lt (by omega)), ?_⟩
      have S2 := S.add_bed (by omega) SH hx hB
      obtain ⟨d2, hs2⟩ := S2.sh
      refine ⟨_, rfl, _, _, _, _, _, rfl, hs2, T.Shore.cl, T.f_Shore_beds, F_Shore_beds, _, _, rfl, .inl (SqL.of S2.bl), _, _, rfl, rfl, one_line, fun p hp => changed k (d_bed c1 (by omega)) S2 rfl (fun b o q m => ⟨?_, fun m2 => ?_⟩) (fun b q => SH.free (free_upd b q)) ?_ hp⟩
      · rw [upd_ne (fun z => m (mem_fp.mpr (.inr (.inr (.inl z)))))]
        exact SH b o q
      · rcases mem_fp.mp m2 with z | z | z | z | z
        · exact m (mem_fp.mpr (.inl z))
        · exact m (mem_fp.mpr (.inr (.inl z)))
        · exact m (mem_fp.mpr (.inr (.inr (.inl z))))
        · rcases List.mem_append.mp z with z | z
          · exact m (mem_fp.mpr (.inr (.inr (.inr (.inl z)))))
          · have : b = x := by simpa using z
            rw [this, hx] at q
            cases q
        · exact m (mem_fp.mpr (.inr (.inr (.inr (.inr z)))))
      · show [V.int ((((g.bs ++ [x]).map V.ref).length : Int) - 1)] = [V.int (a.beds.length : Int)]
        rw [List.length_map, List.length_append, S.blen, List.length_singleton, show ((a.beds.length + 1 : Nat) : Int) - 1 = (a.beds.length : Int) by omega]
theorem set_getD {l : List Nat} {b : Nat} (h : b < l.length) : l.set b (l.getD b 0) = l := by
  rw [List.getD_eq_getElem?_getD, List.getElem?_eq_getElem h]
  exact List.set_getElem_self h
theorem mod_set {l : List Nat} {b n : Nat} (h : b < l.length) : l.modify b (fun x => x + n) = l.set b (l.getD b 0 + n) := by
  apply List.ext_getElem?
  intro i
  rw [List.getElem?_modify, List.getElem?_set, List.getD_eq_getElem?_getD, List.getElem?_eq_getElem h]
  by_cases q : b = i
  · subst q
    rw [if_pos rfl, if_pos h, List.getElem?_eq_getElem h]
    simp
  · rw [if_neg q]
    cases l[i]? <;> simp [q]
theorem ok_raise_bed (T : Tx K mg A) : FnOk P w K mg base CX0 2 A.a_raise_bed A.d_raise_bed ["shore", "bed", "height"] (sp_raise_bed A) := by
  refine T.raise_bed.fn.ok sc_raise_bed (fun vs H Q E h => ?_) (fun cdv Ar outer s H vs Q E hr h => ?_)
  · obtain ⟨g, a, b, h, rfl, _⟩ := h
    rfl
  · obtain ⟨g, a, b, h, rfl, S, hb, k⟩ := h
    obtain ⟨dx, hs⟩ := S.sh
    obtain ⟨p, hp, db, hB⟩ := S.bed hb
    refine ⟨_, (pss_cons (ps_if (pt_not (pt_val (pe_call (ok_is_bed_height T) (hr.mono (by decide)) rfl T.is_bed_height.mg T.is_bed_height.fn.kp T.is_bed_height.bd .nil pass0 (pa_cons (pv 2) pa_nil))))
      (pss_one (ps_ret (pe_lst (pa_cons (pe_gi T.g_OUT_OF_RANGE rfl) pa_nil))))
      pss_nil)
      (pss_cons (ps_set (i := 3) sc_raise_bed.nd rfl (Or.inl rfl) (pe_ix ix_list (pe_fld (pv 0) rfl) (pv 1) (fun _ _ => rfl)))
      (pss_cons (ps_set (i := 4) sc_raise_bed.nd rfl (Or.inl rfl) (pe_fld (pv 3) rfl))
      (pss_cons (ps_fld (pv 3) (pv 2) rfl)
      (pss_one (ps_ret (pe_lst (pa_cons (pv 4) pa_nil)))))))), ?_⟩
    refine ⟨_, rfl, h, rfl, _, rfl, ifn (fun c1 => refuses S k (d_raise_bad hb c1)) (fun c1 => ?_)⟩
    refine ⟨_, rfl, _, _, _, _, _, rfl, hs, T.Shore.cl, T.f_Shore_beds, F_Shore_beds, _, rfl, g.bl, _, _, V.ref p, rfl, rfl, SqL.of S.bl, atI_nat (at_map hp), ?_⟩
    refine ⟨_, rfl, _, _, _, _, _, rfl, hB, T.Bed.cl, T.f_Bed_height, F_Bed_height, ?_⟩
    refine ⟨_, rfl, _, rfl, _, _, _, _, rfl, hB, T.Bed.cl, T.f_Bed_height, (by show 2 < 1000; decide), ?_⟩
    have m : p ∈ g.fp := mem_fp.mpr (.inr (.inr (.inr (.inl (List.mem_of_getElem? hp)))))
    have S2 := S.set_bed (H' := upd H p (.ins A.C_Bed db (putF "height" (.int (h : Nat)) (F_Bed (.int (a.bed b : Nat)) (.int (a.done.getD b 0 : Nat)))))) hp ⟨db, hB⟩ ⟨db, ats F_Bed_put_height⟩ (fun c o e n => by rw [upd_ne n]; exact e)
    rw [set_getD (by rw [S.ok.dlen]; exact hb)] at S2
    exact ⟨_, rfl, one_line, fun q hq => changed k (d_raise hb c1) S2 rfl (keeps_upd m) free_upd rfl hq⟩
theorem ok_pass_minutes (T : Tx K mg A) : FnOk P w K mg base CX0 3 A.a_pass_minutes A.d_pass_minutes ["shore", "how_many"] (sp_pass_minutes A) := by
  refine T.pass_minutes.fn.ok sc_pass_minutes (fun vs H Q E h => ?_) (fun cdv Ar outer s H vs Q E hr h => ?_)
  · obtain ⟨g, a, n, rfl, _⟩ := h
    rfl
  · obtain ⟨g, a, n, rfl, S, k⟩ := h
    obtain ⟨dx, hs⟩ := S.sh
    refine ⟨_, (pss_cons (ps_if (pt_not (pt_val (pe_call (ok_is_how_many T) (hr.mono (by decide)) rfl T.is_how_many.mg T.is_how_many.fn.kp T.is_how_many.bd .nil pass0 (pa_cons (pv 1) pa_nil))))
      (pss_one (ps_ret (pe_lst (pa_cons (pe_gi T.g_OUT_OF_RANGE rfl) pa_nil))))
      pss_nil)
      (pss_cons (ps_if (pt_cmpR op_gt (pe_op op_add (pe_fld (pv 0) rfl) (pv 1)) (pe_gi T.g_LAST_MINUTE rfl) (nomark _))
      (pss_one (ps_ret (pe_lst (pa_cons (pe_gi T.g_TOO_LATE rfl) pa_nil))))
      pss_nil)
      (pss_cons (ps_fldaug (pv 0) (pv 1) in_add)
      (pss_one (ps_ret (pe_lst (pa_cons (pe_fld (pv 0) rfl) (pa_cons (pe_meth (pv 0) T.Shore.cl T.Shore_water_at.me (ok_Shore_water_at T) (hr.mono (by decide)) T.Shore_water_at.bd .nil pass0 (pa_cons (pe_fld (pv 0) rfl) pa_nil)) pa_nil)))))))), ?_⟩
    refine ⟨_, rfl, n, rfl, _, rfl, ifn (fun c1 => refuses S k (d_minutes_bad c1)) (fun c1 => ?_)⟩
    refine ⟨_, rfl, _, _, _, _, _, rfl, hs, T.Shore.cl, T.f_Shore_minute, F_Shore_minute, _, rfl, _, _, rfl, rfl, _, _, rfl, rfl, _, rfl, ifd (fun c2 => refuses S k (d_minutes_late c1 (by omega))) (fun c2 => ?_)⟩
    refine ⟨_, rfl, _, _, _, _, _, rfl, hs, T.Shore.cl, T.f_Shore_minute, F_Shore_minute, _, rfl, _, _, rfl, rfl, dx, _, hs, (by show 5 < 1000; decide), ?_⟩
    have S2 := S.set_now (H' := upd H g.sh (.ins A.C_Shore dx (putF "minute" (.int ((a.now : Int) + (n : Int))) (F_Shore (.bl true) (.int a.base) (.int a.now) (.ref g.wl) (.ref g.bl))))) (n := a.now + n) (by omega) ⟨dx, ats F_Shore_put_minute⟩ (fun c o e n => by rw [upd_ne n]; exact e)
    obtain ⟨d2, hs2⟩ := S2.sh
    exact ⟨_, rfl, _, _, _, _, _, rfl, hs2, T.Shore.cl, T.f_Shore_minute, F_Shore_minute, _, rfl, g.sh, d2, _, rfl, hs2, F_Shore_no_water_at, _, rfl, _, _, _, _, _, rfl, hs2, T.Shore.cl, T.f_Shore_minute, F_Shore_minute, true, g, _, a.now + n, rfl, S2, two_line, fun q hq => changed k (d_minutes c1 (by omega)) S2 rfl (keeps_upd (mem_fp.mpr (.inl rfl))) free_upd rfl hq⟩
theorem ok_work_at_bed (T : Tx K mg A) : FnOk P w K mg base CX0 5 A.a_work_at_bed A.d_work_at_bed ["shore", "bed", "how_many"] (sp_work_at_bed A) := by
  refine T.work_at_bed.fn.ok sc_work_at_bed (fun vs H Q E h => ?_) (fun cdv Ar outer s H vs Q E hr h => ?_)
  · obtain ⟨g, a, b, n, rfl, _⟩ := h
    rfl
  · obtain ⟨g, a, b, n, rfl, S, hb, k⟩ := h
    obtain ⟨dx, hs⟩ := S.sh
    obtain ⟨p, hp, db, hB⟩ := S.bed hb
    refine ⟨_, (pss_cons (ps_if (pt_not (pt_val (pe_call (ok_is_how_many T) (hr.mono (by decide)) rfl T.is_how_many.mg T.is_how_many.fn.kp T.is_how_many.bd .nil pass0 (pa_cons (pv 2) pa_nil))))
      (pss_one (ps_ret (pe_lst (pa_cons (pe_gi T.g_OUT_OF_RANGE rfl) pa_nil))))
      pss_nil)
      (pss_cons (ps_if (pt_cmpR op_gt (pe_op op_add (pe_fld (pv 0) rfl) (pv 2)) (pe_gi T.g_LAST_MINUTE rfl) (nomark _))
      (pss_one (ps_ret (pe_lst (pa_cons (pe_gi T.g_TOO_LATE rfl) pa_nil))))
      pss_nil)
      (pss_cons (ps_if (pt_cmpR op_lt (pe_call (ok_dry_minutes_from T) (hr.mono (by decide)) rfl T.dry_minutes_from.mg T.dry_minutes_from.fn.kp T.dry_minutes_from.bd .nil pass0 (pa_cons (pv 0) (pa_cons (pv 1) (pa_cons (pe_fld (pv 0) rfl) (pa_cons (pv 2) pa_nil))))) (pv 2) (nomark _))
      (pss_one (ps_ret (pe_lst (pa_cons (pe_gi T.g_NOT_DRY rfl) pa_nil))))
      pss_nil)
      (pss_cons (ps_fldaug (pv 0) (pv 2) in_add)
      (pss_cons (ps_set (i := 3) sc_work_at_bed.nd rfl (Or.inl rfl) (pe_ix ix_list (pe_fld (pv 0) rfl) (pv 1) (fun _ _ => rfl)))
      (pss_cons (ps_fldaug (pv 3) (pv 2) in_add)
      (pss_one (ps_ret (pe_lst (pa_cons (pe_fld (pv 0) rfl) pa_nil)))))))))), ?_⟩
    refine ⟨_, rfl, n, rfl, _, rfl, ifn (fun c1 => refuses S k (d_work_bad hb c1)) (fun c1 => ?_)⟩
    refine ⟨_, rfl, _, _, _, _, _, rfl, hs, T.Shore.cl, T.f_Shore_minute, F_Shore_minute, _, rfl, _, _, rfl, rfl, _, _, rfl, rfl, _, rfl, ifd (fun c2 => refuses S k (d_work_late hb c1 (by omega))) (fun c2 => ?_)⟩
    refine ⟨_, rfl, _, rfl, _, rfl, _, _, _, _, _, rfl, hs, T.Shore.cl, T.f_Shore_minute, F_Shore_minute, _, rfl, true, g, a, b, a.now, n, rfl, S, hb, _, rfl, _, _, rfl, rfl, _, rfl, ifd (fun c3 => refuses S k (d_work_wet hb c1 (by omega) (by omega))) (fun c3 => ?_)⟩
    refine ⟨_, rfl, _, _, _, _, _, rfl, hs, T.Shore.cl, T.f_Shore_minute, F_Shore_minute, _, rfl, _, _, rfl, rfl, dx, _, hs, (by show 5 < 1000; decide), ?_⟩
    have S2 := S.set_now (H' := upd H g.sh (.ins A.C_Shore dx (putF "minute" (.int ((a.now : Int) + (n : Int))) (F_Shore (.bl true) (.int a.base) (.int a.now) (.ref g.wl) (.ref g.bl))))) (n := a.now + n) (by omega) ⟨dx, ats F_Shore_put_minute⟩ (fun c o e n => by rw [upd_ne n]; exact e)
    obtain ⟨d2, hs2⟩ := S2.sh
    obtain ⟨p2, hp2, e2, hB2⟩ := S2.bed (b := b) hb
    refine ⟨_, rfl, _, _, _, _, _, rfl, hs2, T.Shore.cl, T.f_Shore_beds, F_Shore_beds, _, rfl, g.bl, _, _, V.ref p2, rfl, rfl, SqL.of S2.bl, atI_nat (at_map hp2), ?_⟩
    refine ⟨_, rfl, _, _, _, _, _, rfl, hB2, T.Bed.cl, T.f_Bed_worked, F_Bed_worked, _, rfl, _, _, rfl, rfl, e2, _, hB2, (by show 2 < 1000; decide), ?_⟩
    have m : p2 ∈ g.fp := mem_fp.mpr (.inr (.inr (.inr (.inl (List.mem_of_getElem? hp2)))))
    have S3 := S2.set_bed (y := a.bed b) (e := a.done.getD b 0 + n) hp2 ⟨e2, hB2⟩ ⟨e2, ats (F_Bed_put_worked (v1 := .int (a.done.getD b 0 : Nat)))⟩ (fun c o e n => by rw [upd_ne n]; exact e)
    have e3 : a.beds.set b (a.bed b) = a.beds := set_getD hb
    have e4 : a.done.modify b (fun x => x + n) = a.done.set b (a.done.getD b 0 + n) := mod_set (by rw [S.ok.dlen]; exact hb)
    obtain ⟨d3, hs3⟩ := S3.sh
    refine ⟨_, rfl, _, _, _, _, _, rfl, hs3, T.Shore.cl, T.f_Shore_minute, F_Shore_minute, one_line, fun q hq => changed k (a' := { a with now := a.now + n, done := a.done.modify b fun x => x + n }) (d_work hb c1 (by omega) (by omega)) ?_ rfl ((keeps_upd (mem_fp.mpr (.inl rfl))).trans (keeps_upd m)) (fun c z => free_upd c (free_upd c z)) rfl hq⟩
    rw [e4]
    have S4 : ShoreAt A _ g true { a with now := a.now + n, beds := a.beds.set b (a.bed b), done := a.done.set b (a.done.getD b 0 + n) } := S3
    rw [e3] at S4
    exact S4
theorem ok_tell_height (T : Tx K mg A) : FnOk P w K mg base CX0 3 A.a_tell_height A.d_tell_height ["shore", "minute"] (sp_tell_height A) := by
  refine T.tell_height.fn.ok sc_tell_height (fun vs H Q E h => ?_) (fun cdv Ar outer s H vs Q E hr h => ?_)
  · obtain ⟨g, a, t, rfl, _⟩ := h
    rfl
  · obtain ⟨g, a, t, rfl, S, k⟩ := h
    obtain ⟨dx, hs⟩ := S.sh
    refine ⟨_, (pss_cons (ps_if (pt_not (pt_val (pe_call (ok_is_minute T) (hr.mono (by decide)) rfl T.is_minute.mg T.is_minute.fn.kp T.is_minute.bd .nil pass0 (pa_cons (pv 1) pa_nil))))
      (pss_one (ps_ret (pe_lst (pa_cons (pe_gi T.g_OUT_OF_RANGE rfl) pa_nil))))
      pss_nil)
      (pss_one (ps_ret (pe_lst (pa_cons (pe_meth (pv 0) T.Shore.cl T.Shore_water_at.me (ok_Shore_water_at T) (hr.mono (by decide)) T.Shore_water_at.bd .nil pass0 (pa_cons (pv 1) pa_nil)) pa_nil))))), ?_⟩
    refine ⟨_, rfl, t, rfl, _, rfl, ifn (fun c1 => refuses S k (d_height_bad c1)) (fun c1 => ?_)⟩
    exact ⟨_, rfl, g.sh, dx, _, rfl, hs, F_Shore_no_water_at, _, rfl, true, g, a, t, rfl, S, refuses S k (d_height c1)⟩
theorem ok_tell_dry (T : Tx K mg A) : FnOk P w K mg base CX0 5 A.a_tell_dry A.d_tell_dry ["shore", "bed", "minute"] (sp_tell_dry A) := by
  refine T.tell_dry.fn.ok sc_tell_dry (fun vs H Q E h => ?_) (fun cdv Ar outer s H vs Q E hr h => ?_)
  · obtain ⟨g, a, b, t, rfl, _⟩ := h
    rfl
  · obtain ⟨g, a, b, t, rfl, S, hb, k⟩ := h
    obtain ⟨dx, hs⟩ := S.sh
    refine ⟨_, (pss_cons (ps_if (pt_not (pt_val (pe_call (ok_is_minute T) (hr.mono (by decide)) rfl T.is_minute.mg T.is_minute.fn.kp T.is_minute.bd .nil pass0 (pa_cons (pv 2) pa_nil))))
      (pss_one (ps_ret (pe_lst (pa_cons (pe_gi T.g_OUT_OF_RANGE rfl) pa_nil))))
      pss_nil)
      (pss_one (ps_ret (pe_lst (pa_cons (pe_call (ok_one_if_dry T) (hr.mono (by decide)) rfl T.one_if_dry.mg T.one_if_dry.fn.kp T.one_if_dry.bd .nil pass0 (pa_cons (pv 0) (pa_cons (pv 1) (pa_cons (pv 2) pa_nil)))) pa_nil))))), ?_⟩
    refine ⟨_, rfl, t, rfl, _, rfl, ifn (fun c1 => refuses S k (d_dry_bad hb c1)) (fun c1 => ?_)⟩
    refine ⟨_, rfl, _, rfl, _, rfl, true, g, a, b, t, rfl, S, hb, ?_⟩
    cases e : a.dry b t with
    | true => exact refuses S k (d_dry_t hb c1 e)
    | false => exact refuses S k (d_dry_f hb c1 e)
theorem ok_tell_next (T : Tx K mg A) : FnOk P w K mg base CX0 5 A.a_tell_next A.d_tell_next ["shore", "bed", "minute"] (sp_tell_next A) := by
  refine T.tell_next.fn.ok sc_tell_next (fun vs H Q E h => ?_) (fun cdv Ar outer s H vs Q E hr h => ?_)
  · obtain ⟨g, a, b, t, rfl, _⟩ := h
    rfl
  · obtain ⟨g, a, b, t, rfl, S, hb, k⟩ := h
    refine ⟨_, (pss_cons (ps_if (pt_not (pt_val (pe_call (ok_is_minute T) (hr.mono (by decide)) rfl T.is_minute.mg T.is_minute.fn.kp T.is_minute.bd .nil pass0 (pa_cons (pv 2) pa_nil))))
      (pss_one (ps_ret (pe_lst (pa_cons (pe_gi T.g_OUT_OF_RANGE rfl) pa_nil))))
      pss_nil)
      (pss_cons (ps_set (i := 3) sc_tell_next.nd rfl (Or.inl rfl) (pe_call (ok_first_minute T) (hr.mono (by decide)) rfl T.first_minute.mg T.first_minute.fn.kp T.first_minute.bd .nil pass0 (pa_cons (pv 0) (pa_cons (pv 1) (pa_cons (pv 2) (pa_cons pe_bl pa_nil))))))
      (pss_cons (ps_if (pt_cmpR op_isN (pv 3) pe_non (nomark _))
      (pss_one (ps_ret (pe_lst (pa_cons (pe_gi T.g_NOT_SO_SOON rfl) pa_nil))))
      pss_nil)
      (pss_one (ps_ret (pe_lst (pa_cons (pv 3) (pa_cons (pe_call (ok_dry_minutes_from T) (hr.mono (by decide)) rfl T.dry_minutes_from.mg T.dry_minutes_from.fn.kp T.dry_minutes_from.bd .nil pass0 (pa_cons (pv 0) (pa_cons (pv 1) (pa_cons (pv 3) (pa_cons (pe_gi T.g_SPAN rfl) pa_nil))))) pa_nil)))))))), ?_⟩
    refine ⟨_, rfl, t, rfl, _, rfl, ifn (fun c1 => refuses S k (d_next_bad hb c1)) (fun c1 => ?_)⟩
    refine ⟨_, rfl, _, rfl, _, rfl, true, g, a, b, t, true, rfl, S, hb, by omega, ?_⟩
    have ef : (fun s => a.dry b s == true) = a.dry b := by funext s; cases a.dry b s <;> rfl
    rw [ef]
    cases e : Kv346.firstOf t (a.dry b) with
    | none => exact ⟨_, rfl, rfl, _, rfl, iteT (refuses S k (d_next_none hb c1 e))⟩
    | some x =>
      refine ⟨_, rfl, rfl, _, rfl, iteF ?_⟩
      exact ⟨_, rfl, _, rfl, _, rfl, _, rfl, true, g, a, b, x, 1500, rfl, S, hb, two_line, fun p hp => tells S k (d_next hb c1 e) Same.rfl rfl hp⟩
theorem ok_tell_wet (T : Tx K mg A) : FnOk P w K mg base CX0 5 A.a_tell_wet A.d_tell_wet ["shore", "bed", "minute"] (sp_tell_wet A) := by
  refine T.tell_wet.fn.ok sc_tell_wet (fun vs H Q E h => ?_) (fun cdv Ar outer s H vs Q E hr h => ?_)
  · obtain ⟨g, a, b, t, rfl, _⟩ := h
    rfl
  · obtain ⟨g, a, b, t, rfl, S, hb, k⟩ := h
    refine ⟨_, (pss_cons (ps_if (pt_not (pt_val (pe_call (ok_is_minute T) (hr.mono (by decide)) rfl T.is_minute.mg T.is_minute.fn.kp T.is_minute.bd .nil pass0 (pa_cons (pv 2) pa_nil))))
      (pss_one (ps_ret (pe_lst (pa_cons (pe_gi T.g_OUT_OF_RANGE rfl) pa_nil))))
      pss_nil)
      (pss_cons (ps_set (i := 3) sc_tell_wet.nd rfl (Or.inl rfl) (pe_call (ok_first_minute T) (hr.mono (by decide)) rfl T.first_minute.mg T.first_minute.fn.kp T.first_minute.bd .nil pass0 (pa_cons (pv 0) (pa_cons (pv 1) (pa_cons (pv 2) (pa_cons pe_bl pa_nil))))))
      (pss_cons (ps_if (pt_cmpR op_isN (pv 3) pe_non (nomark _))
      (pss_one (ps_ret (pe_lst (pa_cons (pe_gi T.g_NOT_SO_SOON rfl) pa_nil))))
      pss_nil)
      (pss_one (ps_ret (pe_lst (pa_cons (pv 3) pa_nil))))))), ?_⟩
    refine ⟨_, rfl, t, rfl, _, rfl, ifn (fun c1 => refuses S k (d_wet_bad hb c1)) (fun c1 => ?_)⟩
    refine ⟨_, rfl, _, rfl, _, rfl, true, g, a, b, t, false, rfl, S, hb, by omega, ?_⟩
    have ef : (fun s => a.dry b s == false) = fun s => !(a.dry b s) := by funext s; cases a.dry b s <;> rfl
    rw [ef]
    cases e : Kv346.firstOf t (fun s => !(a.dry b s)) with
    | none => exact ⟨_, rfl, rfl, _, rfl, iteT (refuses S k (d_wet_none hb c1 e))⟩
    | some x => exact ⟨_, rfl, rfl, _, rfl, iteF ⟨_, rfl, refuses S k (d_wet hb c1 e)⟩⟩
theorem ok_tell_lasts (T : Tx K mg A) : FnOk P w K mg base CX0 5 A.a_tell_lasts A.d_tell_lasts ["shore", "bed", "minute"] (sp_tell_lasts A) := by
  refine T.tell_lasts.fn.ok sc_tell_lasts (fun vs H Q E h => ?_) (fun cdv Ar outer s H vs Q E hr h => ?_)
  · obtain ⟨g, a, b, t, rfl, _⟩ := h
    rfl
  · obtain ⟨g, a, b, t, rfl, S, hb, k⟩ := h
    refine ⟨_, (pss_cons (ps_if (pt_not (pt_val (pe_call (ok_is_minute T) (hr.mono (by decide)) rfl T.is_minute.mg T.is_minute.fn.kp T.is_minute.bd .nil pass0 (pa_cons (pv 2) pa_nil))))
      (pss_one (ps_ret (pe_lst (pa_cons (pe_gi T.g_OUT_OF_RANGE rfl) pa_nil))))
      pss_nil)
      (pss_one (ps_ret (pe_lst (pa_cons (pe_call (ok_dry_minutes_from T) (hr.mono (by decide)) rfl T.dry_minutes_from.mg T.dry_minutes_from.fn.kp T.dry_minutes_from.bd .nil pass0 (pa_cons (pv 0) (pa_cons (pv 1) (pa_cons (pv 2) (pa_cons (pe_gi T.g_SPAN rfl) pa_nil))))) pa_nil))))), ?_⟩
    refine ⟨_, rfl, t, rfl, _, rfl, ifn (fun c1 => refuses S k (d_lasts_bad hb c1)) (fun c1 => ?_)⟩
    exact ⟨_, rfl, _, rfl, _, rfl, true, g, a, b, t, 1500, rfl, S, hb, refuses S k (d_lasts hb c1)⟩
theorem ok_tell_fits (T : Tx K mg A) : FnOk P w K mg base CX0 4 A.a_tell_fits A.d_tell_fits ["shore", "bed", "minute", "how_many"] (sp_tell_fits A) := by
  refine T.tell_fits.fn.ok sc_tell_fits (fun vs H Q E h => ?_) (fun cdv Ar outer s H vs Q E hr h => ?_)
  · obtain ⟨g, a, b, t, n, rfl, _⟩ := h
    rfl
  · obtain ⟨g, a, b, t, n, rfl, S, hb, k⟩ := h
    refine ⟨_, (pss_cons (ps_if (PW.pt (pw_or (pt_not (pt_val (pe_call (ok_is_minute T) (hr.mono (by decide)) rfl T.is_minute.mg T.is_minute.fn.kp T.is_minute.bd .nil pass0 (pa_cons (pv 2) pa_nil)))) (pw_or1 (pt_not (pt_val (pe_call (ok_is_few T) (hr.mono (by decide)) rfl T.is_few.mg T.is_few.fn.kp T.is_few.bd .nil pass0 (pa_cons (pv 3) pa_nil)))))))
      (pss_one (ps_ret (pe_lst (pa_cons (pe_gi T.g_OUT_OF_RANGE rfl) pa_nil))))
      pss_nil)
      (pss_cons (ps_set (i := 4) sc_tell_fits.nd rfl (Or.inl rfl) (pe_call (ok_first_fit T) (hr.mono (by decide)) rfl T.first_fit.mg T.first_fit.fn.kp T.first_fit.bd .nil pass0 (pa_cons (pv 0) (pa_cons (pv 1) (pa_cons (pv 2) (pa_cons (pv 3) pa_nil))))))
      (pss_cons (ps_if (pt_cmpR op_isN (pv 4) pe_non (nomark _))
      (pss_one (ps_ret (pe_lst (pa_cons (pe_gi T.g_NOT_SO_SOON rfl) pa_nil))))
      pss_nil)
      (pss_one (ps_ret (pe_lst (pa_cons (pv 4) pa_nil))))))), ?_⟩
    refine ⟨_, rfl, t, rfl, _, rfl, ifn (fun c1 => iteT (refuses S k (d_fits_bad hb (by omega)))) (fun c1 => ?_)⟩
    refine ⟨_, rfl, n, rfl, _, rfl, ifn (fun c2 => refuses S k (d_fits_bad hb (by omega))) (fun c2 => ?_)⟩
    refine ⟨_, rfl, _, rfl, _, rfl, _, rfl, true, g, a, b, t, n, rfl, S, hb, c2, fun H1 SH => ?_⟩
    cases e : a.fits b t n with
    | none => exact ⟨_, rfl, rfl, _, rfl, iteT ⟨one_line, fun p hp => tells S k (d_fits_none hb ⟨c1, c2⟩ e) SH rfl hp⟩⟩
    | some x => exact ⟨_, rfl, rfl, _, rfl, iteF ⟨_, rfl, one_line, fun p hp => tells S k (d_fits hb ⟨c1, c2⟩ e) SH rfl hp⟩⟩
theorem ok_tell_longest (T : Tx K mg A) : FnOk P w K mg base CX0 6 A.a_tell_longest A.d_tell_longest ["shore", "bed", "minute", "how_many"] (sp_tell_longest A) := by
  refine T.tell_longest.fn.ok sc_tell_longest (fun vs H Q E h => ?_) (fun cdv Ar outer s H vs Q E hr h => ?_)
  · obtain ⟨g, a, b, t, n, rfl, _⟩ := h
    rfl
  · obtain ⟨g, a, b, t, n, rfl, S, hb, k⟩ := h
    refine ⟨_, (pss_cons (ps_if (pt_not (pt_val (pe_call (ok_are_minutes T) (hr.mono (by decide)) rfl T.are_minutes.mg T.are_minutes.fn.kp T.are_minutes.bd .nil pass0 (pa_cons (pv 2) (pa_cons (pv 3) pa_nil)))))
      (pss_one (ps_ret (pe_lst (pa_cons (pe_gi T.g_OUT_OF_RANGE rfl) pa_nil))))
      pss_nil)
      (pss_cons (ps_set (i := 4) sc_tell_longest.nd rfl (Or.inl rfl) pe_int)
      (pss_cons (ps_set (i := 5) sc_tell_longest.nd rfl (Or.inl rfl) (pv 2))
      (pss_cons (ps_for PassesOwn.never rfl (pi_list (pe_call (ok_dry_stretches T) (hr.mono (by decide)) rfl T.dry_stretches.mg T.dry_stretches.fn.kp T.dry_stretches.bd .nil pass0 (pa_cons (pv 0) (pa_cons (pv 1) (pa_cons (pv 2) (pa_cons (pv 3) pa_nil)))))) (pg_tup rfl (pgs_cons (pg_name (i := 6) sc_tell_longest.nd rfl (Or.inl rfl)) (pgs_cons (pg_name (i := 7) sc_tell_longest.nd rfl (Or.inl rfl)) pgs_nil)))
      (pss_one (ps_if (pt_cmpR op_gt (pv 7) (pv 4) (nomark _))
      (pss_cons (ps_set (i := 4) sc_tell_longest.nd rfl (Or.inl rfl) (pv 7))
      (pss_one (ps_set (i := 5) sc_tell_longest.nd rfl (Or.inl rfl) (pv 6))))
      pss_nil)))
      (pss_cons (ps_if (pt_cmpR op_eq (pv 4) pe_int (nomark _))
      (pss_one (ps_ret (pe_lst (pa_cons (pe_gi T.g_NOT_SO_SOON rfl) pa_nil))))
      pss_nil)
      (pss_one (ps_ret (pe_lst (pa_cons (pv 4) (pa_cons (pv 5) pa_nil)))))))))), ?_⟩
    refine ⟨_, rfl, _, rfl, t, n, rfl, _, rfl, ifn (fun c1 => refuses S k (d_longest_bad hb c1)) (fun c1 => ?_)⟩
    refine ⟨_, rfl, ?_⟩
    refine ⟨_, rfl, _, rfl, _, rfl, _, rfl, true, g, a, b, t, n, rfl, S, hb, c1.2.2, fun H1 q ts SH hq PA => ?_⟩
    have hpos := str_pos a b n n t (Nat.le_refl _)
    refine ⟨q, rfl, ⟨_, SqL.of PA.lst⟩, for_list (K := K) (a := q) (xs := ts.map V.ref) (fun i σ H' => ∃ (lo be : Nat) (v1 v2 : Option V), σ = [some (.ref g.sh), some (.int b), some (.int t), some (.int n), some (.int lo), some (.int be), v1, v2] ∧ H' = H1 ∧ says (((a.stretches b t n none).take i).foldl pick none) t lo be)
      ⟨0, t, none, none, rfl, rfl, rfl, rfl⟩ (fun i σ H' _ ⟨_, _, _, _, _, e, _⟩ => by rw [e]; exact SqL.of PA.lst) ?_ ?_⟩
    · rintro i y σ H' hi ⟨lo, be, v1, v2, rfl, rfl, hy⟩
      obtain ⟨p, hp, rfl⟩ := map_at hi
      obtain ⟨x, hx, hT⟩ := PA.at_ i p hp
      have hx1 := (hpos x (List.mem_of_getElem? hx)).1
      refine ⟨p, _, rfl, SqT.of hT, rfl, _, _, rfl, _, _, rfl, rfl, ?_⟩
      have hs2 := says_step hy hx1
      have e : ((a.stretches b t n none).take (i + 1)).foldl pick none = pick (((a.stretches b t n none).take i).foldl pick none) x := by rw [take_snoc hx, List.foldl_append]; rfl
      rw [← e] at hs2
      refine ⟨_, rfl, _, rfl, _, _, rfl, rfl, _, rfl, ifd (fun c => ?_) (fun c => ?_)⟩
      · rw [if_pos (show lo < x.2 by omega), if_pos (show lo < x.2 by omega)] at hs2
        exact ⟨_, rfl, _, rfl, x.2, x.1, _, _, rfl, rfl, hs2⟩
      · rw [if_neg (show ¬ lo < x.2 by omega), if_neg (show ¬ lo < x.2 by omega)] at hs2
        exact ⟨lo, be, _, _, rfl, rfl, hs2⟩
    · rintro σ H' ⟨lo, be, v1, v2, rfl, rfl, hy⟩
      rw [List.length_map, PA.len, List.take_length] at hy
      refine ⟨_, rfl, rfl, _, rfl, ?_⟩
      cases e : (a.stretches b t n none).foldl pick none with
      | none =>
        rw [e] at hy
        obtain ⟨h1, h2⟩ := hy
        subst h1
        exact ifd (fun c => ⟨one_line, fun p hp => tells S k (d_longest_none hb c1 e) SH rfl hp⟩) (fun c => absurd rfl c)
      | some y =>
        rw [e] at hy
        obtain ⟨h1, h2, h3⟩ := hy
        subst h1 h2
        exact ifd (fun c => absurd (V.int.inj c) (by omega)) (fun c => ⟨_, rfl, _, rfl, two_line, fun p hp => tells S k (d_longest hb c1 e) SH rfl hp⟩)
end
end Dh


end
section
set_option Elab.async false
set_option linter.all false
set_option maxRecDepth 100000
set_option maxHeartbeats 2000000
/-! ### the other calls that look, but rounds -/
namespace Dh
open PySem PySem.Spec PyProof.Rows L2
open Kv346 (Abs Wave)
def sp_tell_many (A : Ad) : Sp := fun vs H Q _ => ∃ (g : Sh) (a : Abs) (b t n : Nat), vs = [.ref g.sh, .int b, .int t, .int n] ∧ ShoreAt A H g true a ∧ b < a.beds.length ∧ Does A H g a (.many b t n) Q
def sp_tell_stretches (A : Ad) : Sp := fun vs H Q _ => ∃ (g : Sh) (a : Abs) (b t n : Nat), vs = [.ref g.sh, .int b, .int t, .int n] ∧ ShoreAt A H g true a ∧ b < a.beds.length ∧ Does A H g a (.stretches b t n) Q
def sp_tell_together (K : PySem.W.Frag) (A : Ad) : Sp := fun vs H Q _ => ∃ (g : Sh) (a : Abs) (t n : Nat) (q : Addr) (l : List Nat), vs = [.ref g.sh, .int t, .int n, .ref q] ∧ ShoreAt A H g true a ∧ SqL K H q (nV l) ∧ Does A H g a (.together t n l) Q
def sp_tell_highest (A : Ad) : Sp := fun vs H Q _ => ∃ (g : Sh) (a : Abs) (t n : Nat), vs = [.ref g.sh, .int t, .int n] ∧ ShoreAt A H g true a ∧ Does A H g a (.highest t n) Q
def sp_tell_lowest (A : Ad) : Sp := fun vs H Q _ => ∃ (g : Sh) (a : Abs) (t n : Nat), vs = [.ref g.sh, .int t, .int n] ∧ ShoreAt A H g true a ∧ Does A H g a (.lowest t n) Q
def sp_tell_least (A : Ad) : Sp := fun vs H Q _ => ∃ (g : Sh) (a : Abs) (t n : Nat), vs = [.ref g.sh, .int t, .int n] ∧ ShoreAt A H g true a ∧ Does A H g a (.least t n) Q
def sp_tell_all (A : Ad) : Sp := fun vs H Q _ => ∃ (g : Sh) (a : Abs) (t : Nat), vs = [.ref g.sh, .int t] ∧ ShoreAt A H g true a ∧ Does A H g a (.all t) Q
def sp_tell_works (A : Ad) : Sp := fun vs H Q _ => ∃ (g : Sh) (a : Abs), vs = [.ref g.sh] ∧ ShoreAt A H g true a ∧ Does A H g a .works Q
def sp_tell_look (A : Ad) : Sp := fun vs H Q _ => ∃ (g : Sh) (a : Abs) (b : Nat), vs = [.ref g.sh, .int b] ∧ ShoreAt A H g true a ∧ b < a.beds.length ∧ Does A H g a (.look b) Q
def sp_tell_state (A : Ad) : Sp := fun vs H Q _ => ∃ (g : Sh) (a : Abs), vs = [.ref g.sh] ∧ ShoreAt A H g true a ∧ Does A H g a .state Q
/-! #### the highest, the lowest -/
theorem hiM_spec (a : Abs) (t : Nat) : ∀ n, ∃ j, j ≤ n ∧ hiM a t (n + 1) = t + j ∧ (∀ i, i ≤ n → a.height (t + i) ≤ a.height (t + j)) ∧ ∀ i, i < j → a.height (t + i) < a.height (t + j)
  | 0 => ⟨0, Nat.le_refl _, hiM_one, fun i hi => by rw [show i = 0 by omega]; exact Nat.le_refl _, fun i hi => by omega⟩
  | n + 1 => by
    obtain ⟨j, h1, h2, h3, h4⟩ := hiM_spec a t n
    rw [hiM_succ, h2]
    by_cases c : a.height (t + j) < a.height (t + (n + 1))
    · rw [if_pos c]
      refine ⟨n + 1, Nat.le_refl _, rfl, fun i hi => ?_, fun i hi => ?_⟩
      · by_cases q : i = n + 1
        · rw [q]; exact Nat.le_refl _
        · have := h3 i (by omega); omega
      · have := h3 i (by omega); omega
    · rw [if_neg c]
      refine ⟨j, by omega, rfl, fun i hi => ?_, h4⟩
      by_cases q : i = n + 1
      · rw [q]; omega
      · exact h3 i (by omega)
theorem loM_spec (a : Abs) (t : Nat) : ∀ n, ∃ j, j ≤ n ∧ loM a t (n + 1) = t + j ∧ (∀ i, i ≤ n → a.height (t + j) ≤ a.height (t + i)) ∧ ∀ i, i < j → a.height (t + j) < a.height (t + i)
  | 0 => ⟨0, Nat.le_refl _, loM_one, fun i hi => by rw [show i = 0 by omega]; exact Nat.le_refl _, fun i hi => by omega⟩
  | n + 1 => by
    obtain ⟨j, h1, h2, h3, h4⟩ := loM_spec a t n
    rw [loM_succ, h2]
    by_cases c : a.height (t + (n + 1)) < a.height (t + j)
    · rw [if_pos c]
      refine ⟨n + 1, Nat.le_refl _, rfl, fun i hi => ?_, fun i hi => ?_⟩
      · by_cases q : i = n + 1
        · rw [q]; exact Nat.le_refl _
        · have := h3 i (by omega); omega
      · have := h3 i (by omega); omega
    · rw [if_neg c]
      refine ⟨j, by omega, rfl, fun i hi => ?_, h4⟩
      by_cases q : i = n + 1
      · rw [q]; omega
      · exact h3 i (by omega)
theorem mxH_spec (a : Abs) (t : Nat) : ∀ n, mxH a t (n + 1) = a.height (hiM a t (n + 1))
  | 0 => by rw [mxH_one, hiM_one]
  | n + 1 => by
    rw [mxH_succ, mxH_spec a t n, show hiM a t (n + 1 + 1) = (if a.height (hiM a t (n + 1)) < a.height (t + (n + 1)) then t + (n + 1) else hiM a t (n + 1)) from hiM_succ]
    by_cases c : a.height (hiM a t (n + 1)) < a.height (t + (n + 1))
    · rw [if_pos c]; omega
    · rw [if_neg c]; omega
/-- the heights as numbers -/
def htL (a : Abs) (t n : Nat) : List Int := (List.range n).map fun k => ((a.height (t + k) : Nat) : Int)
theorem htL_map (a : Abs) (t n : Nat) : (htL a t n).map V.int = tab n fun k => .int (a.height (t + k) : Nat) := by unfold htL tab; rw [List.map_map]; rfl
theorem mem_htL {a : Abs} {t n : Nat} {y : Int} : y ∈ htL a t n ↔ ∃ k, k < n ∧ y = ((a.height (t + k) : Nat) : Int) := by
  unfold htL
  rw [List.mem_map]
  constructor
  · rintro ⟨k, hk, e⟩
    exact ⟨k, List.mem_range.mp hk, e.symm⟩
  · rintro ⟨k, hk, e⟩
    exact ⟨k, List.mem_range.mpr hk, e.symm⟩
theorem htL_len (a : Abs) (t n : Nat) : (htL a t n).length = n := by unfold htL; rw [List.length_map, List.length_range]
theorem max_is {a : Abs} {t n : Nat} {m : Int} (hn : 1 ≤ n) (h1 : m ∈ htL a t n) (h2 : ∀ y, y ∈ htL a t n → y ≤ m) : m = ((a.height (hiM a t n) : Nat) : Int) := by
  obtain ⟨j, hj, e, h3, _⟩ := hiM_spec a t (n - 1)
  rw [show n - 1 + 1 = n by omega] at e
  obtain ⟨k, hk, rfl⟩ := mem_htL.mp h1
  have h4 := h2 _ (mem_htL.mpr ⟨j, by omega, rfl⟩)
  have h5 := h3 k (by omega)
  rw [e]
  omega
theorem min_is {a : Abs} {t n : Nat} {m : Int} (hn : 1 ≤ n) (h1 : m ∈ htL a t n) (h2 : ∀ y, y ∈ htL a t n → m ≤ y) : m = ((a.height (loM a t n) : Nat) : Int) := by
  obtain ⟨j, hj, e, h3, _⟩ := loM_spec a t (n - 1)
  rw [show n - 1 + 1 = n by omega] at e
  obtain ⟨k, hk, rfl⟩ := mem_htL.mp h1
  have h4 := h2 _ (mem_htL.mpr ⟨j, by omega, rfl⟩)
  have h5 := h3 k (by omega)
  rw [e]
  omega
theorem flat_tab {n : Nat} {f : Nat → Int} : (tab n fun k => V.int (f k)).all flatV = true := by
  rw [List.all_eq_true]
  intro x hx
  unfold tab at hx
  obtain ⟨k, _, rfl⟩ := List.mem_map.mp hx
  rfl
theorem eqV_int {i j : Int} : eqV (.int i) (.int j) = decide (i = j) := by
  show (i == j) = decide (i = j)
  cases h : (i == j) with
  | true => rw [decide_eq_true (eq_of_beq h)]
  | false => rw [decide_eq_false (fun z => by rw [z, beq_self_eq_true] at h; cases h)]
section
variable {P : Program} {w : World} {K : PySem.W.Frag} {mg : Str → Option Value} {base : Heap} {A : Ad}
theorem ok_tell_many (T : Tx K mg A) : FnOk P w K mg base CX0 4 A.a_tell_many A.d_tell_many ["shore", "bed", "minute", "how_many"] (sp_tell_many A) := by
  refine T.tell_many.fn.ok sc_tell_many (fun vs H Q E h => ?_) (fun cdv Ar outer s H vs Q E hr h => ?_)
  · obtain ⟨g, a, b, t, n, rfl, _⟩ := h
    rfl
  · obtain ⟨g, a, b, t, n, rfl, S, hb, k⟩ := h
    refine ⟨_, (pss_cons (ps_if (pt_not (pt_val (pe_call (ok_are_minutes T) (hr.mono (by decide)) rfl T.are_minutes.mg T.are_minutes.fn.kp T.are_minutes.bd .nil pass0 (pa_cons (pv 2) (pa_cons (pv 3) pa_nil)))))
      (pss_one (ps_ret (pe_lst (pa_cons (pe_gi T.g_OUT_OF_RANGE rfl) pa_nil))))
      pss_nil)
      (pss_one (ps_ret (pe_lst (pa_cons (pe_call (ok_minutes_all_dry T) (hr.mono (by decide)) rfl T.minutes_all_dry.mg T.minutes_all_dry.fn.kp T.minutes_all_dry.bd .nil pass0 (pa_cons (pv 0) (pa_cons (pe_lst (pa_cons (pv 1) pa_nil)) (pa_cons (pv 2) (pa_cons (pv 3) pa_nil))))) pa_nil))))), ?_⟩
    refine ⟨_, rfl, _, rfl, t, n, rfl, _, rfl, ifn (fun c1 => refuses S k (d_many_bad hb c1)) (fun c1 => ?_)⟩
    refine ⟨_, rfl, _, rfl, one_line, fun q hq => ?_⟩
    refine ⟨_, rfl, _, rfl, true, g, a, q, [b], t, n, rfl, S.same (Same.rfl.new hq), SqL.of upd_same, (by show 1 ≤ 6; decide), (fun b' hb' => ?_), c1.2.2, fun H2 SH2 => ?_⟩
    · have : b' = b := by simpa using hb'
      rw [this]
      exact hb
    · refine ⟨one_line, fun p hp => tells S k (d_many hb c1) ((Same.rfl.new hq).trans SH2) ?_ hp⟩
      have e : (fun s => [b].all fun b => a.dry b s) = a.dry b := by funext s; simp
      rw [e]
      rfl
theorem ok_tell_stretches (T : Tx K mg A) : FnOk P w K mg base CX0 6 A.a_tell_stretches A.d_tell_stretches ["shore", "bed", "minute", "how_many"] (sp_tell_stretches A) := by
  refine T.tell_stretches.fn.ok sc_tell_stretches (fun vs H Q E h => ?_) (fun cdv Ar outer s H vs Q E hr h => ?_)
  · obtain ⟨g, a, b, t, n, rfl, _⟩ := h
    rfl
  · obtain ⟨g, a, b, t, n, rfl, S, hb, k⟩ := h
    refine ⟨_, (pss_cons (ps_if (pt_not (pt_val (pe_call (ok_are_minutes T) (hr.mono (by decide)) rfl T.are_minutes.mg T.are_minutes.fn.kp T.are_minutes.bd .nil pass0 (pa_cons (pv 2) (pa_cons (pv 3) pa_nil)))))
      (pss_one (ps_ret (pe_lst (pa_cons (pe_gi T.g_OUT_OF_RANGE rfl) pa_nil))))
      pss_nil)
      (pss_cons (ps_set (i := 4) sc_tell_stretches.nd rfl (Or.inl rfl) (pe_call (ok_dry_stretches T) (hr.mono (by decide)) rfl T.dry_stretches.mg T.dry_stretches.fn.kp T.dry_stretches.bd .nil pass0 (pa_cons (pv 0) (pa_cons (pv 1) (pa_cons (pv 2) (pa_cons (pv 3) pa_nil))))))
      (pss_cons (ps_set (i := 5) sc_tell_stretches.nd rfl (Or.inl rfl) (pe_lst (pa_cons (pe_callB call_len_seq (by rfl) T.n_len PySem.boot_len (pa_cons (pv 4) pa_nil)) pa_nil)))
      (pss_cons (ps_for PassesOwn.never rfl (pi_list (pv 4)) (pg_tup rfl (pgs_cons (pg_name (i := 6) sc_tell_stretches.nd rfl (Or.inl rfl)) (pgs_cons (pg_name (i := 7) sc_tell_stretches.nd rfl (Or.inl rfl)) pgs_nil)))
      (pss_cons (ps_expr (pe_bm PySem.F.plainAttrs_list PySem.F.slot_list_append PySem.F.type_list_append mt_append (pv 5) (pa_cons (pv 6) pa_nil)))
      (pss_one (ps_expr (pe_bm PySem.F.plainAttrs_list PySem.F.slot_list_append PySem.F.type_list_append mt_append (pv 5) (pa_cons (pv 7) pa_nil))))))
      (pss_one (ps_ret (pv 5))))))), ?_⟩
    refine ⟨_, rfl, _, rfl, t, n, rfl, _, rfl, ifn (fun c1 => refuses S k (d_stretches_bad hb c1)) (fun c1 => ?_)⟩
    refine ⟨_, rfl, _, rfl, _, rfl, _, rfl, true, g, a, b, t, n, rfl, S, hb, c1.2.2, fun H1 q ts SH hq PA => ?_⟩
    have hlen := str_len a b n n t (Nat.le_refl _)
    refine ⟨_, rfl, q, _, rfl, .inl (SqL.of PA.lst), one_line, fun tl htl => ?_⟩
    have ntl : ∀ x o, H1 x = some o → x ≠ tl := fun x o e => ne_of_none e htl
    refine ⟨_, rfl, q, rfl, ⟨_, SqL.of ((upd_ne (ntl _ _ PA.lst)).trans PA.lst)⟩, for_list (K := K) (a := q) (xs := ts.map V.ref) (fun i σ H' => ∃ v1 v2 : Option V, σ = [some (.ref g.sh), some (.int b), some (.int t), some (.int n), some (.ref q), some (.ref tl), v1, v2] ∧ Same H1 H' ∧ H' tl = some (.lst (.int ((a.stretches b t n none).length : Nat) :: nV (((a.stretches b t n none).take i).flatMap fun x => [x.1, x.2]))))
      ⟨none, none, rfl, Same.rfl.new htl, by rw [upd_same, List.length_map, PA.len]; rfl⟩ (fun i σ H' _ ⟨_, _, _, e, _⟩ => SqL.of (e _ _ PA.lst)) ?_ ?_⟩
    · rintro i y σ H' hi ⟨v1, v2, rfl, SH', hL⟩
      obtain ⟨p, hp, rfl⟩ := map_at hi
      obtain ⟨x, hx, hT⟩ := PA.at_ i p hp
      have hil : i < (a.stretches b t n none).length := (List.getElem?_eq_some_iff.mp hx).1
      have hfl : (((a.stretches b t n none).take i).flatMap fun x => [x.1, x.2]).length ≤ 2000 := by
        rw [List.length_flatMap]
        have : ((a.stretches b t n none).take i).map (fun x => ([x.1, x.2] : List Nat).length) = ((a.stretches b t n none).take i).map fun _ => 2 := rfl
        rw [this, List.map_const', List.sum_replicate_nat, List.length_take]
        omega
      refine ⟨p, _, rfl, SqT.of (SH' _ _ hT), rfl, _, _, rfl, _, _, rfl, rfl, ?_⟩
      refine ⟨_, rfl, .inl ⟨rfl, _, SqL.of hL⟩, _, rfl, tl, _, _, rfl, rfl, hL, ?_, ?_⟩
      · rw [List.length_cons, List.length_map]
        exact line_lt (by omega)
      · refine ⟨_, rfl, .inl ⟨rfl, _, SqL.of upd_same⟩, _, rfl, tl, _, _, rfl, rfl, upd_same, ?_, ?_⟩
        · rw [List.length_append, List.length_cons, List.length_map, List.length_singleton]
          exact line_lt (by omega)
        · refine ⟨_, _, rfl, (SH'.put htl).put htl, ?_⟩
          rw [upd_same, take_snoc hx, List.flatMap_append]
          unfold nV
          rw [List.map_append, List.append_assoc, List.cons_append]
          rfl
    · rintro σ H' ⟨v1, v2, rfl, SH', hL⟩
      rw [List.length_map, PA.len, List.take_length] at hL
      refine ⟨_, rfl, ?_⟩
      refine changes_of_looks S (k.to (d_stretches hb c1)) H' tl (SH.trans SH') (SH.free htl) ?_
      rw [hL]
      unfold nV
      rw [show Kv346Neutral.row ⟨((a.stretches b t n none).length : Nat), (a.stretches b t n none).flatMap fun x => [x.1, x.2]⟩ = ((a.stretches b t n none).length : Int) :: ((a.stretches b t n none).flatMap fun x => [x.1, x.2]).map fun (z : Nat) => (z : Int) from rfl, List.map_cons, List.map_map]
      rfl
theorem ok_tell_together (T : Tx K mg A) : FnOk P w K mg base CX0 4 A.a_tell_together A.d_tell_together ["shore", "minute", "how_many", "beds"] (sp_tell_together K A) := by
  refine T.tell_together.fn.ok sc_tell_together (fun vs H Q E h => ?_) (fun cdv Ar outer s H vs Q E hr h => ?_)
  · obtain ⟨g, a, t, n, q, l, rfl, _⟩ := h
    rfl
  · obtain ⟨g, a, t, n, q, l, rfl, S, hq, k⟩ := h
    refine ⟨_, (pss_cons (ps_if (pt_not (pt_val (pe_call (ok_are_minutes T) (hr.mono (by decide)) rfl T.are_minutes.mg T.are_minutes.fn.kp T.are_minutes.bd .nil pass0 (pa_cons (pv 1) (pa_cons (pv 2) pa_nil)))))
      (pss_one (ps_ret (pe_lst (pa_cons (pe_gi T.g_OUT_OF_RANGE rfl) pa_nil))))
      pss_nil)
      (pss_cons (ps_if (PW.pt (pw_or (pt_cmpR op_gt (pe_callB call_len_seq (by rfl) T.n_len PySem.boot_len (pa_cons (pv 3) pa_nil)) (pe_gi T.g_MOST_BEDS rfl) (nomark _)) (pw_or1 (pt_not (pt_val (pe_call (ok_are_different T) (hr.mono (by decide)) rfl T.are_different.mg T.are_different.fn.kp T.are_different.bd .nil pass0 (pa_cons (pv 3) pa_nil)))))))
      (pss_one (ps_ret (pe_lst (pa_cons (pe_gi T.g_OUT_OF_RANGE rfl) pa_nil))))
      pss_nil)
      (pss_cons (ps_if (pt_not (pt_val (pe_meth (pv 0) T.Shore.cl T.Shore_has_beds.me (ok_Shore_has_beds T) (hr.mono (by decide)) T.Shore_has_beds.bd .nil pass0 (pa_cons (pv 3) pa_nil))))
      (pss_one (ps_ret (pe_lst (pa_cons (pe_gi T.g_NO_SUCH_BED rfl) pa_nil))))
      pss_nil)
      (pss_one (ps_ret (pe_lst (pa_cons (pe_call (ok_minutes_all_dry T) (hr.mono (by decide)) rfl T.minutes_all_dry.mg T.minutes_all_dry.fn.kp T.minutes_all_dry.bd .nil pass0 (pa_cons (pv 0) (pa_cons (pv 3) (pa_cons (pv 1) (pa_cons (pv 2) pa_nil))))) pa_nil))))))), ?_⟩
    refine ⟨_, rfl, _, rfl, t, n, rfl, _, rfl, ifn (fun c1 => refuses S k (d_together_bad (fun z => c1 ⟨z.1, z.2.1, z.2.2.1⟩))) (fun c1 => ?_)⟩
    refine ⟨_, rfl, q, _, rfl, .inl hq, _, _, rfl, rfl, _, rfl, ifd (fun c2 => iteT (refuses S k (d_together_bad (fun z => ?_)))) (fun c2 => ?_)⟩
    · rw [List.length_map] at c2
      have := z.2.2.2.1
      omega
    rw [List.length_map] at c2
    have hl : l.length ≤ 6 := by omega
    refine ⟨_, rfl, q, l, rfl, hq, by omega, fun H1 SH1 => ⟨_, rfl, ifn (fun c3 => ⟨one_line, fun p hp => tells S k (d_together_bad (fun z => c3 z.2.2.2.2)) SH1 rfl hp⟩) (fun c3 => ?_)⟩⟩
    have S1 := S.same SH1
    obtain ⟨d1, hs1⟩ := S1.sh
    have kk : t ≤ 100000 ∧ 1 ≤ n ∧ n ≤ 1000 ∧ l.length ≤ 6 ∧ l.Nodup := ⟨c1.1, c1.2.1, c1.2.2, hl, c3⟩
    refine ⟨_, rfl, g.sh, d1, _, rfl, hs1, F_Shore_no_has_beds, _, rfl, true, g, a, q, l, rfl, S1, SqL.same hq SH1, by omega, fun H2 SH2 => ⟨_, rfl, ifnb (fun c4 => ?_) (fun c4 => ?_)⟩⟩
    · rw [List.all_eq_false] at c4
      obtain ⟨b, hb, z⟩ := c4
      have z : ¬ b < a.beds.length := fun y => z (decide_eq_true y)
      exact ⟨one_line, fun p hp => tells S k (d_together_no kk hb z) (SH1.trans SH2) rfl hp⟩
    · rw [List.all_eq_true] at c4
      have c4' : ∀ b ∈ l, b < a.beds.length := fun b hb => of_decide_eq_true (c4 b hb)
      exact ⟨_, rfl, _, rfl, _, rfl, _, rfl, true, g, a, q, l, t, n, rfl, S1.same SH2, SqL.same (SqL.same hq SH1) SH2, hl, c4', c1.2.2, fun H3 SH3 => ⟨one_line, fun p hp => tells S k (d_together kk c4') ((SH1.trans SH2).trans SH3) rfl hp⟩⟩
theorem ok_tell_highest (T : Tx K mg A) : FnOk P w K mg base CX0 3 A.a_tell_highest A.d_tell_highest ["shore", "minute", "how_many"] (sp_tell_highest A) := by
  refine T.tell_highest.fn.ok sc_tell_highest (fun vs H Q E h => ?_) (fun cdv Ar outer s H vs Q E hr h => ?_)
  · obtain ⟨g, a, t, n, rfl, _⟩ := h
    rfl
  · obtain ⟨g, a, t, n, rfl, S, k⟩ := h
    obtain ⟨dx, hs⟩ := S.sh
    refine ⟨_, (pss_cons (ps_if (pt_not (pt_val (pe_call (ok_are_minutes T) (hr.mono (by decide)) rfl T.are_minutes.mg T.are_minutes.fn.kp T.are_minutes.bd .nil pass0 (pa_cons (pv 1) (pa_cons (pv 2) pa_nil)))))
      (pss_one (ps_ret (pe_lst (pa_cons (pe_gi T.g_OUT_OF_RANGE rfl) pa_nil))))
      pss_nil)
      (pss_cons (ps_set (i := 3) sc_tell_highest.nd rfl (Or.inl rfl) (pe_meth (pv 0) T.Shore.cl T.Shore_waters_from.me (ok_Shore_waters_from T) (hr.mono (by decide)) T.Shore_waters_from.bd .nil pass0 (pa_cons (pv 1) (pa_cons (pv 2) pa_nil))))
      (pss_cons (ps_set (i := 4) sc_tell_highest.nd rfl (Or.inl rfl) (pe_callB (cr_max rfl) (by rfl) T.n_max PyProof.Rows.boot_max (pa_cons (pv 3) pa_nil)))
      (pss_one (ps_ret (pe_lst (pa_cons (pv 4) (pa_cons (pe_op op_add (pv 1) (pe_bm PySem.F.plainAttrs_list PySem.F.slot_list_index PySem.F.type_list_index mt_index (pv 3) (pa_cons (pv 4) pa_nil))) pa_nil)))))))), ?_⟩
    refine ⟨_, rfl, _, rfl, t, n, rfl, _, rfl, ifn (fun c1 => refuses S k (d_highest_bad c1)) (fun c1 => ?_)⟩
    refine ⟨_, rfl, g.sh, dx, _, rfl, hs, F_Shore_no_waters_from, _, rfl, _, rfl, true, g, a, t, n, rfl, S, by omega, fun H1 q SH hq hL => ?_⟩
    refine ⟨_, rfl, q, htL a t n, rfl, SqL.of (by rw [htL_map]; exact hL), by rw [htL_len]; exact c1.2.1, fun m hm1 hm2 => ?_⟩
    rw [max_is c1.2.1 hm1 hm2]
    obtain ⟨j, hj, e, h3, h4⟩ := hiM_spec a t (n - 1)
    rw [show n - 1 + 1 = n by omega] at e
    refine ⟨_, rfl, _, rfl, _, rfl, .inl ⟨rfl, _, SqL.of hL⟩, _, rfl, q, _, _, j, _, rfl, rfl, SqL.of hL, rfl, flat_tab, tab_at (by omega), ?_, fun i z hi hz => ?_, _, _, rfl, rfl, two_line, fun p hp => tells S k (d_highest c1) SH ?_ hp⟩
    · rw [eqV_int, e]
      exact decide_eq_true rfl
    · obtain ⟨_, rfl⟩ := tab_inv hz
      rw [eqV_int, e]
      have := h4 i hi
      exact decide_eq_false (by omega)
    · rw [e]
      rfl
theorem ok_tell_lowest (T : Tx K mg A) : FnOk P w K mg base CX0 3 A.a_tell_lowest A.d_tell_lowest ["shore", "minute", "how_many"] (sp_tell_lowest A) := by
  refine T.tell_lowest.fn.ok sc_tell_lowest (fun vs H Q E h => ?_) (fun cdv Ar outer s H vs Q E hr h => ?_)
  · obtain ⟨g, a, t, n, rfl, _⟩ := h
    rfl
  · obtain ⟨g, a, t, n, rfl, S, k⟩ := h
    obtain ⟨dx, hs⟩ := S.sh
    refine ⟨_, (pss_cons (ps_if (pt_not (pt_val (pe_call (ok_are_minutes T) (hr.mono (by decide)) rfl T.are_minutes.mg T.are_minutes.fn.kp T.are_minutes.bd .nil pass0 (pa_cons (pv 1) (pa_cons (pv 2) pa_nil)))))
      (pss_one (ps_ret (pe_lst (pa_cons (pe_gi T.g_OUT_OF_RANGE rfl) pa_nil))))
      pss_nil)
      (pss_cons (ps_set (i := 3) sc_tell_lowest.nd rfl (Or.inl rfl) (pe_meth (pv 0) T.Shore.cl T.Shore_waters_from.me (ok_Shore_waters_from T) (hr.mono (by decide)) T.Shore_waters_from.bd .nil pass0 (pa_cons (pv 1) (pa_cons (pv 2) pa_nil))))
      (pss_cons (ps_set (i := 4) sc_tell_lowest.nd rfl (Or.inl rfl) (pe_callB (cr_min rfl) (by rfl) T.n_min PyProof.Rows.boot_min (pa_cons (pv 3) pa_nil)))
      (pss_one (ps_ret (pe_lst (pa_cons (pv 4) (pa_cons (pe_op op_add (pv 1) (pe_bm PySem.F.plainAttrs_list PySem.F.slot_list_index PySem.F.type_list_index mt_index (pv 3) (pa_cons (pv 4) pa_nil))) pa_nil)))))))), ?_⟩
    refine ⟨_, rfl, _, rfl, t, n, rfl, _, rfl, ifn (fun c1 => refuses S k (d_lowest_bad c1)) (fun c1 => ?_)⟩
    refine ⟨_, rfl, g.sh, dx, _, rfl, hs, F_Shore_no_waters_from, _, rfl, _, rfl, true, g, a, t, n, rfl, S, by omega, fun H1 q SH hq hL => ?_⟩
    refine ⟨_, rfl, q, htL a t n, rfl, SqL.of (by rw [htL_map]; exact hL), by rw [htL_len]; exact c1.2.1, fun m hm1 hm2 => ?_⟩
    rw [min_is c1.2.1 hm1 hm2]
    obtain ⟨j, hj, e, h3, h4⟩ := loM_spec a t (n - 1)
    rw [show n - 1 + 1 = n by omega] at e
    refine ⟨_, rfl, _, rfl, _, rfl, .inl ⟨rfl, _, SqL.of hL⟩, _, rfl, q, _, _, j, _, rfl, rfl, SqL.of hL, rfl, flat_tab, tab_at (by omega), ?_, fun i z hi hz => ?_, _, _, rfl, rfl, two_line, fun p hp => tells S k (d_lowest c1) SH ?_ hp⟩
    · rw [eqV_int, e]
      exact decide_eq_true rfl
    · obtain ⟨_, rfl⟩ := tab_inv hz
      rw [eqV_int, e]
      have := h4 i hi
      exact decide_eq_false (by omega)
    · rw [e]
      rfl
theorem ok_tell_least (T : Tx K mg A) : FnOk P w K mg base CX0 3 A.a_tell_least A.d_tell_least ["shore", "minute", "how_many"] (sp_tell_least A) := by
  refine T.tell_least.fn.ok sc_tell_least (fun vs H Q E h => ?_) (fun cdv Ar outer s H vs Q E hr h => ?_)
  · obtain ⟨g, a, t, n, rfl, _⟩ := h
    rfl
  · obtain ⟨g, a, t, n, rfl, S, k⟩ := h
    obtain ⟨dx, hs⟩ := S.sh
    refine ⟨_, (pss_cons (ps_if (PW.pt (pw_or (pt_not (pt_val (pe_call (ok_is_minute T) (hr.mono (by decide)) rfl T.is_minute.mg T.is_minute.fn.kp T.is_minute.bd .nil pass0 (pa_cons (pv 1) pa_nil)))) (pw_or1 (pt_not (pt_val (pe_call (ok_is_few T) (hr.mono (by decide)) rfl T.is_few.mg T.is_few.fn.kp T.is_few.bd .nil pass0 (pa_cons (pv 2) pa_nil)))))))
      (pss_one (ps_ret (pe_lst (pa_cons (pe_gi T.g_OUT_OF_RANGE rfl) pa_nil))))
      pss_nil)
      (pss_one (ps_ret (pe_lst (pa_cons (pe_op op_add (pe_callB (cr_max rfl) (by rfl) T.n_max PyProof.Rows.boot_max (pa_cons (pe_meth (pv 0) T.Shore.cl T.Shore_waters_from.me (ok_Shore_waters_from T) (hr.mono (by decide)) T.Shore_waters_from.bd .nil pass0 (pa_cons (pv 1) (pa_cons (pv 2) pa_nil))) pa_nil)) pe_int) pa_nil))))), ?_⟩
    refine ⟨_, rfl, t, rfl, _, rfl, ifn (fun c1 => iteT (refuses S k (d_least_bad (by omega)))) (fun c1 => ?_)⟩
    refine ⟨_, rfl, n, rfl, _, rfl, ifn (fun c2 => refuses S k (d_least_bad (by omega))) (fun c2 => ?_)⟩
    refine ⟨_, rfl, g.sh, dx, _, rfl, hs, F_Shore_no_waters_from, _, rfl, _, rfl, true, g, a, t, n, rfl, S, by omega, fun H1 q SH hq hL => ?_⟩
    refine ⟨q, htL a t n, rfl, SqL.of (by rw [htL_map]; exact hL), by rw [htL_len]; exact c2.1, fun m hm1 hm2 => ?_⟩
    rw [max_is c2.1 hm1 hm2]
    have e := mxH_spec a t (n - 1)
    rw [show n - 1 + 1 = n by omega] at e
    refine ⟨_, _, rfl, rfl, one_line, fun p hp => tells S k (d_least ⟨c1, c2⟩) SH ?_ hp⟩
    rw [e]
    rfl
theorem ok_tell_all (T : Tx K mg A) : FnOk P w K mg base CX0 4 A.a_tell_all A.d_tell_all ["shore", "minute"] (sp_tell_all A) := by
  refine T.tell_all.fn.ok sc_tell_all (fun vs H Q E h => ?_) (fun cdv Ar outer s H vs Q E hr h => ?_)
  · obtain ⟨g, a, t, rfl, _⟩ := h
    rfl
  · obtain ⟨g, a, t, rfl, S, k⟩ := h
    obtain ⟨dx, hs⟩ := S.sh
    have hbl := S.ok.beds
    refine ⟨_, (pss_cons (ps_if (pt_not (pt_val (pe_call (ok_is_minute T) (hr.mono (by decide)) rfl T.is_minute.mg T.is_minute.fn.kp T.is_minute.bd .nil pass0 (pa_cons (pv 1) pa_nil))))
      (pss_one (ps_ret (pe_lst (pa_cons (pe_gi T.g_OUT_OF_RANGE rfl) pa_nil))))
      pss_nil)
      (pss_cons (ps_setLc (i := 2) rfl sc_tell_all.nd rfl rfl (sw_true rfl rfl rfl rfl) (pi_range1 rfl T.n_range (pa_cons (pe_callB call_len_seq (by rfl) T.n_len PySem.boot_len (pa_cons (pe_fld (pv 0) rfl) pa_nil)) pa_nil)) (blkOk_by (N := ["shore", "minute", "dry", "bed"]) (sc := defScope s_tell_all) (own := [("bed", 3)]) (by decide +kernel)) (fun _ _ _ _ _ => (pg_name (i := 3) sc_tell_all.nd rfl (Or.inl rfl) (Or.inr rfl))) (fun _ _ _ _ _ => (pts_one (pt_val (pe_meth (pv 0) T.Shore.cl T.Shore_is_dry.me (ok_Shore_is_dry T) (hr.mono (by decide)) T.Shore_is_dry.bd .nil pass0 (pa_cons (pv 3) (pa_cons (pv 1) pa_nil)))))) (fun _ _ _ _ _ => (pv 3)))
      (pss_one (ps_ret (pe_op op_cat (pe_lst (pa_cons (pe_callB call_len_seq (by rfl) T.n_len PySem.boot_len (pa_cons (pv 2) pa_nil)) pa_nil)) (pv 2)))))), ?_⟩
    refine ⟨_, rfl, t, rfl, _, rfl, ifn (fun c1 => refuses S k (d_all_bad c1)) (fun c1 => ?_)⟩
    have el : (((g.bs.map V.ref).length : Nat) : Int) = ((a.beds.length : Nat) : Int) := by rw [List.length_map, S.blen]
    refine ⟨_, rfl, _, _, _, _, _, rfl, hs, T.Shore.cl, T.f_Shore_beds, F_Shore_beds, _, _, rfl, .inl (SqL.of S.bl), _, rfl, by rw [el]; omega, by rw [el]; omega, fun D hD => ?_⟩
    rw [el]
    refine lc_range (n := a.beds.length) (fun i H' => Same H H' ∧ H' D = some (.lst (nV ((List.range i).filter fun b => a.dry b t)))) ⟨Same.rfl.new hD, upd_same⟩ ?_ ?_
    · rintro i H' hi ⟨SH, hL⟩
      have S1 := S.same SH
      obtain ⟨d1, hs1⟩ := S1.sh
      rw [Int.zero_add]
      refine ⟨rfl, ?_⟩
      refine ⟨_, rfl, g.sh, d1, _, rfl, hs1, F_Shore_no_is_dry, _, rfl, _, rfl, true, g, a, i, t, rfl, S1, hi, _, rfl, ?_⟩
      refine ifb (fun c2 => ?_) (fun c2 => ?_)
      · refine ⟨_, rfl, _, hL, ?_, SH.put hD, ?_⟩
        · rw [List.length_map]
          have := List.length_filter_le (fun b => a.dry b t) (List.range i)
          rw [List.length_range] at this
          exact line_lt (by omega)
        · rw [upd_same, List.range_succ, List.filter_append, List.filter_cons, if_pos c2, List.filter_nil]
          unfold nV
          rw [List.map_append]
          rfl
      · refine ⟨SH, ?_⟩
        rw [hL, List.range_succ, List.filter_append, List.filter_cons, if_neg (by rw [c2]; decide), List.filter_nil, List.append_nil]
    · rintro H1 ⟨SH, hL⟩
      have hfl := List.length_filter_le (fun b => a.dry b t) (List.range a.beds.length)
      rw [List.length_range] at hfl
      refine ⟨_, rfl, D, _, rfl, .inl (SqL.of hL), one_line, fun l1 hl1 => ?_⟩
      have n1 : D ≠ l1 := ne_of_none hL hl1
      refine ⟨_, rfl, l1, D, _, _, rfl, rfl, upd_same, (upd_ne n1).trans hL, ?_, fun p hp => tells S k (d_all c1) (SH.new hl1) ?_ hp⟩
      · rw [List.length_map]
        exact Nat.le_of_lt (line_lt (by simp only [List.length_cons, List.length_nil]; omega))
      · rw [List.length_map]
        unfold nV
        rw [show Kv346Neutral.row (Kv346.list ((List.range a.beds.length).filter fun b => a.dry b t)) = (((List.range a.beds.length).filter fun b => a.dry b t).length : Int) :: ((List.range a.beds.length).filter fun b => a.dry b t).map fun (z : Nat) => (z : Int) from rfl, List.map_cons, List.map_map]
        rfl
theorem ok_tell_works (T : Tx K mg A) : FnOk P w K mg base CX0 1 A.a_tell_works A.d_tell_works ["shore"] (sp_tell_works A) := by
  refine T.tell_works.fn.ok sc_tell_works (fun vs H Q E h => ?_) (fun cdv Ar outer s H vs Q E hr h => ?_)
  · obtain ⟨g, a, rfl, _⟩ := h
    rfl
  · obtain ⟨g, a, rfl, S, k⟩ := h
    obtain ⟨dx, hs⟩ := S.sh
    have hbl := S.ok.beds
    refine ⟨_, (pss_one (ps_ret (pe_op op_cat (pe_lst (pa_cons (pe_callB call_len_seq (by rfl) T.n_len PySem.boot_len (pa_cons (pe_fld (pv 0) rfl) pa_nil)) pa_nil)) (pe_lc rfl sc_tell_works.nd (pi_list (pe_fld (pv 0) rfl)) (blkOk_by (N := ["shore", "bed"]) (sc := defScope s_tell_works) (own := [("bed", 1)]) (by decide +kernel)) (fun _ _ _ _ _ => (pg_name (i := 1) sc_tell_works.nd rfl (Or.inl rfl) (Or.inr rfl))) (fun _ _ _ _ _ => pts_nil) (fun _ _ _ _ _ => (pe_fldK (K := K) rfl (pv 1) rfl)))))), ?_⟩
    refine ⟨_, rfl, _, _, _, _, _, rfl, hs, T.Shore.cl, T.f_Shore_beds, F_Shore_beds, _, _, rfl, .inl (SqL.of S.bl), one_line, fun l1 hl1 => ?_⟩
    have SH1 : Same H (upd H l1 (.lst [.int ((g.bs.map V.ref).length : Nat)])) := Same.rfl.new hl1
    obtain ⟨d1, hs1⟩ := (S.same SH1).sh
    refine ⟨_, rfl, _, _, _, _, _, rfl, hs1, T.Shore.cl, T.f_Shore_beds, F_Shore_beds, g.bl, rfl, ⟨_, SqL.of (S.same SH1).bl⟩, fun D hD => ?_⟩
    refine lc_list (K := K) (xs := g.bs.map V.ref) (fun i H' => Same (upd H l1 (.lst [.int ((g.bs.map V.ref).length : Nat)])) H' ∧ H' D = some (.lst (nV (a.done.take i)))) ⟨Same.rfl.new hD, upd_same⟩ (fun i H' _ z => SqL.of ((S.same SH1).same z.1).bl) ?_ ?_
    · rintro i x H' hx ⟨SH, hL⟩
      obtain ⟨p, hp, rfl⟩ := map_at hx
      obtain ⟨hh, d, e1, e2, db, hB⟩ := ((S.same SH1).same SH).bd i p hp
      refine ⟨rfl, yes (iteT ?_)⟩
      refine ⟨_, rfl, _, _, _, _, _, rfl, hB, T.Bed.cl, T.f_Bed_worked, F_Bed_worked, _, hL, ?_, SH.put hD, ?_⟩
      · rw [List.length_map]
        exact line_lt (by have := List.length_take_le' i a.done; have := S.ok.dlen; omega)
      · rw [upd_same, take_snoc e2]
        unfold nV
        rw [List.map_append]
        rfl
    · rintro H2 ⟨SH, hL⟩
      rw [List.length_map, S.blen, ← S.ok.dlen, List.take_length] at hL
      refine ⟨l1, D, _, _, rfl, rfl, SH _ _ upd_same, hL, ?_, fun p hp => tells S k d_works (SH1.trans SH) ?_ hp⟩
      · show 1 + (nV a.done).length ≤ sizeLine
        rw [List.length_map, S.ok.dlen]
        exact Nat.le_of_lt (line_lt (by omega))
      · rw [List.length_map, S.blen, ← S.ok.dlen]
        unfold nV
        rw [show Kv346Neutral.row (Kv346.list a.done) = (a.done.length : Int) :: a.done.map fun (z : Nat) => (z : Int) from rfl, List.map_cons, List.map_map]
        rfl
theorem ok_tell_look (T : Tx K mg A) : FnOk P w K mg base CX0 5 A.a_tell_look A.d_tell_look ["shore", "bed"] (sp_tell_look A) := by
  refine T.tell_look.fn.ok sc_tell_look (fun vs H Q E h => ?_) (fun cdv Ar outer s H vs Q E hr h => ?_)
  · obtain ⟨g, a, b, rfl, _⟩ := h
    rfl
  · obtain ⟨g, a, b, rfl, S, hb, k⟩ := h
    obtain ⟨dx, hs⟩ := S.sh
    obtain ⟨p, hp, db, hB⟩ := S.bed hb
    refine ⟨_, (pss_cons (ps_set (i := 2) sc_tell_look.nd rfl (Or.inl rfl) (pe_ix ix_list (pe_fld (pv 0) rfl) (pv 1) (fun _ _ => rfl)))
      (pss_one (ps_ret (pe_lst (pa_cons (pe_fld (pv 2) rfl) (pa_cons (pe_fld (pv 2) rfl) (pa_cons (pe_call (ok_one_if_dry T) (hr.mono (by decide)) rfl T.one_if_dry.mg T.one_if_dry.fn.kp T.one_if_dry.bd .nil pass0 (pa_cons (pv 0) (pa_cons (pv 1) (pa_cons (pe_fld (pv 0) rfl) pa_nil)))) pa_nil))))))), ?_⟩
    refine ⟨_, rfl, _, _, _, _, _, rfl, hs, T.Shore.cl, T.f_Shore_beds, F_Shore_beds, _, rfl, g.bl, _, _, V.ref p, rfl, rfl, SqL.of S.bl, atI_nat (at_map hp), ?_⟩
    exact ⟨_, rfl, _, _, _, _, _, rfl, hB, T.Bed.cl, T.f_Bed_height, F_Bed_height, _, rfl, _, _, _, _, _, rfl, hB, T.Bed.cl, T.f_Bed_worked, F_Bed_worked, _, rfl, _, rfl, _, rfl, _, _, _, _, _, rfl, hs, T.Shore.cl, T.f_Shore_minute, F_Shore_minute, true, g, a, b, a.now, rfl, S, hb, (by show 3 ≤ sizeLine; decide), fun q hq => tells S k (d_look hb) Same.rfl rfl hq⟩
theorem ok_tell_state (T : Tx K mg A) : FnOk P w K mg base CX0 3 A.a_tell_state A.d_tell_state ["shore"] (sp_tell_state A) := by
  refine T.tell_state.fn.ok sc_tell_state (fun vs H Q E h => ?_) (fun cdv Ar outer s H vs Q E hr h => ?_)
  · obtain ⟨g, a, rfl, _⟩ := h
    rfl
  · obtain ⟨g, a, rfl, S, k⟩ := h
    obtain ⟨dx, hs⟩ := S.sh
    refine ⟨_, (pss_one (ps_ret (pe_lst (pa_cons pe_int (pa_cons (pe_fld (pv 0) rfl) (pa_cons (pe_fld (pv 0) rfl) (pa_cons (pe_callB call_len_seq (by rfl) T.n_len PySem.boot_len (pa_cons (pe_fld (pv 0) rfl) pa_nil)) (pa_cons (pe_callB call_len_seq (by rfl) T.n_len PySem.boot_len (pa_cons (pe_fld (pv 0) rfl) pa_nil)) (pa_cons (pe_meth (pv 0) T.Shore.cl T.Shore_water_at.me (ok_Shore_water_at T) (hr.mono (by decide)) T.Shore_water_at.bd .nil pass0 (pa_cons (pe_fld (pv 0) rfl) pa_nil)) pa_nil))))))))), ?_⟩
    refine ⟨_, rfl, _, _, _, _, _, rfl, hs, T.Shore.cl, T.f_Shore_minute, F_Shore_minute, _, rfl, _, _, _, _, _, rfl, hs, T.Shore.cl, T.f_Shore_base, F_Shore_base, _, rfl, _, _, _, _, _, rfl, hs, T.Shore.cl, T.f_Shore_waves, F_Shore_waves, _, _, rfl, .inl (SqL.of S.wl), _, rfl, _, _, _, _, _, rfl, hs, T.Shore.cl, T.f_Shore_beds, F_Shore_beds, _, _, rfl, .inl (SqL.of S.bl), _, rfl, g.sh, dx, _, rfl, hs, F_Shore_no_water_at, _, rfl, _, _, _, _, _, rfl, hs, T.Shore.cl, T.f_Shore_minute, F_Shore_minute, true, g, a, a.now, rfl, S, (by show 6 ≤ sizeLine; decide), fun q hq => tells S k d_state Same.rfl ?_ hq⟩
    rw [List.length_map, List.length_map, S.wlen, S.blen]
    rfl
end
end Dh


end
section
set_option Elab.async false
set_option linter.all false
set_option maxRecDepth 100000
set_option maxHeartbeats 2000000
/-! ### rounds -/
namespace Dh
open PySem PySem.Spec PyProof.Rows L2
open Kv346 (Abs Wave)
def fs (l : List (Nat × Nat)) : List Nat := l.map fun x => x.1
def sn (l : List (Nat × Nat)) : List Nat := l.map fun x => x.2
def sp_beds_of (K : PySem.W.Frag) : Sp := fun vs H Q _ => ∃ (q : Addr) (l : List Nat), vs = [.ref q] ∧ SqL K H q (nV l) ∧ l.length % 2 = 0 ∧ l.length ≤ 8 ∧ Gives H (nV (fs (Kv346.pairs l))) Q
def sp_minutes_of (K : PySem.W.Frag) : Sp := fun vs H Q _ => ∃ (q : Addr) (l : List Nat), vs = [.ref q] ∧ SqL K H q (nV l) ∧ l.length % 2 = 0 ∧ l.length ≤ 8 ∧ Gives H (nV (sn (Kv346.pairs l))) Q
def sp_is_a_round (K : PySem.W.Frag) : Sp := fun vs H Q _ => ∃ (q : Addr) (l : List Nat), vs = [.ref q] ∧ SqL K H q (nV l) ∧ ∀ H' : Hp, Same H H' → Q (.bl (Kv346.okRound l)) H'
def sp_round_refused (K : PySem.W.Frag) (A : Ad) : Sp := fun vs H Q _ => ∃ (g : Sh) (a : Abs) (t : Nat) (q : Addr) (l : List Nat), vs = [.ref g.sh, .int t, .ref q] ∧ ShoreAt A H g true a ∧ SqL K H q (nV l) ∧
  (¬ (t ≤ 100000 ∧ OkR l) → ∀ H' : Hp, Same H H' → Q (.int (-22)) H') ∧
  (t ≤ 100000 ∧ OkR l → (∃ x ∈ Kv346.pairs l, ¬ x.1 < a.beds.length) → ∀ H' : Hp, Same H H' → Q (.int (-2)) H') ∧
  (t ≤ 100000 ∧ OkR l → (∀ x ∈ Kv346.pairs l, x.1 < a.beds.length) → ∀ H' : Hp, Same H H' → Q .non H')
def sp_Visit_init (A : Ad) : Sp := fun vs H Q _ => ∃ (p dx la : Addr) (b n : Nat), vs = [.ref p, .int b, .int n, .ref la] ∧ H p = some (.ins A.C_Visit dx []) ∧
  ∀ H' : Hp, (∃ dx, H' p = some (.ins A.C_Visit dx (F_Visit (.int b) (.int n) (.ref la)))) → (∀ c o, H c = some o → c ≠ p → H' c = some o) → Q .non H'
/-- a visit: a bed, its minutes, where the work there begins -/
def VisitAt (A : Ad) (H : Hp) (a : Abs) (t m : Nat) (p : Addr) (x : Nat × Nat) : Prop := ∃ la, (∃ dx, H p = some (.ins A.C_Visit dx (F_Visit (.int (x.1 : Nat)) (.int (x.2 : Nat)) (.ref la)))) ∧ H la = some (.lst (ffL (fun k => a.height (t + k)) (a.bed x.1) x.2 m))
theorem ffL_len {f : Nat → Nat} {h n m : Nat} : (ffL f h n m).length = m := tab_len
theorem VisitAt.same {A : Ad} {H H' : Hp} {a : Abs} {t m : Nat} {p : Addr} {x : Nat × Nat} (S : Same H H') (h : VisitAt A H a t m p x) : VisitAt A H' a t m p x := let ⟨la, ⟨dx, e⟩, e2⟩ := h; ⟨la, ⟨dx, S _ _ e⟩, S _ _ e2⟩
/-- visits as the program has them -/
def adV (ad : Nat × Nat → Addr) (o : List (Nat × Nat)) : List V := o.map fun x => V.ref (ad x)
def sp_visits_of (K : PySem.W.Frag) (A : Ad) : Sp := fun vs H Q _ => ∃ (g : Sh) (a : Abs) (t : Nat) (q : Addr) (l : List Nat), vs = [.ref g.sh, .int t, .ref q] ∧ ShoreAt A H g true a ∧ SqL K H q (nV l) ∧ OkR l ∧ (∀ x ∈ Kv346.pairs l, x.1 < a.beds.length) ∧
  ∀ (H' : Hp) (v : Addr) (ad : Nat × Nat → Addr), Same H H' → H v = none → H' v = some (.lst (adV ad (Kv346.pairs l))) → (∀ x ∈ Kv346.pairs l, VisitAt A H' a t ((Kv346.pairs l).length * 1560) (ad x) x) → Q (.ref v) H'
def sp_how_long (K : PySem.W.Frag) (A : Ad) : Sp := fun vs H Q _ => ∃ (a : Abs) (t m : Nat) (q : Addr) (o : List (Nat × Nat)) (ad : Nat × Nat → Addr), vs = [.ref q] ∧ SqL K H q (adV ad o) ∧ (∀ x ∈ o, VisitAt A H a t m (ad x) x ∧ 1 ≤ x.2 ∧ x.2 ≤ 60) ∧ o.length * 1560 ≤ m ∧
  Q (oV ((a.through t o).map fun s => s - t)) H
/-- lists of visits -/
structure OrdersAt (H : Hp) (r : Addr) (ol : List (List (Nat × Nat))) (ad : Nat × Nat → Addr) (rs : List Addr) : Prop where
  lst : H r = some (.lst (rs.map V.ref))
  len : rs.length = ol.length
  at_ : ∀ (i : Nat) (p : Addr), rs[i]? = some p → ∃ o, ol[i]? = some o ∧ H p = some (.lst (adV ad o)) ∧ p ≠ r
/-- a visit's bed can be read -/
def BedOf (A : Ad) (H : Hp) (p : Addr) (b : Nat) : Prop := ∃ dx u v, H p = some (.ins A.C_Visit dx (F_Visit (.int b) u v))
theorem BedOf.same {A : Ad} {H H' : Hp} {p : Addr} {b : Nat} (S : Same H H') (h : BedOf A H p b) : BedOf A H' p b := let ⟨dx, u, v, e⟩ := h; ⟨dx, u, v, S _ _ e⟩
theorem VisitAt.bed {A : Ad} {H : Hp} {a : Abs} {t m : Nat} {p : Addr} {x : Nat × Nat} (h : VisitAt A H a t m p x) : BedOf A H p x.1 := let ⟨la, ⟨dx, e⟩, _⟩ := h; ⟨dx, _, _, e⟩
def sp_with_one_more (K : PySem.W.Frag) (A : Ad) : Sp := fun vs H Q _ => ∃ (r q : Addr) (ol : List (List (Nat × Nat))) (l : List (Nat × Nat)) (ad : Nat × Nat → Addr) (rs : List Addr), vs = [.ref r, .ref q] ∧ OrdersAt H r ol ad rs ∧ SqL K H q (adV ad l) ∧
  (∀ x ∈ l, BedOf A H (ad x) x.1) ∧ (fs l).Nodup ∧ l.length ≤ 4 ∧ ol.length ≤ 1000 ∧ (∀ o ∈ ol, o.length ≤ 4 ∧ ∀ x ∈ o, x ∈ l) ∧
  ∀ (H' : Hp) (r' : Addr) (rs' : List Addr), Same H H' → H r' = none → OrdersAt H' r' (ext l ol) ad rs' → Q (.ref r') H'
def sp_all_orders (K : PySem.W.Frag) (A : Ad) : Sp := fun vs H Q _ => ∃ (q : Addr) (l : List (Nat × Nat)) (ad : Nat × Nat → Addr), vs = [.ref q] ∧ SqL K H q (adV ad l) ∧ (∀ x ∈ l, BedOf A H (ad x) x.1) ∧ (fs l).Nodup ∧ l.length ≤ 4 ∧
  ∀ (H' : Hp) (r' : Addr) (rs' : List Addr), Same H H' → H r' = none → OrdersAt H' r' (Kv346.perms l l.length) ad rs' → Q (.ref r') H'
def sp_tell_through (K : PySem.W.Frag) (A : Ad) : Sp := fun vs H Q _ => ∃ (g : Sh) (a : Abs) (t : Nat) (q : Addr) (l : List Nat), vs = [.ref g.sh, .int t, .ref q] ∧ ShoreAt A H g true a ∧ SqL K H q (nV l) ∧ Does A H g a (.through t l) Q
def sp_tell_soonest (K : PySem.W.Frag) (A : Ad) : Sp := fun vs H Q _ => ∃ (g : Sh) (a : Abs) (t : Nat) (q : Addr) (l : List Nat), vs = [.ref g.sh, .int t, .ref q] ∧ ShoreAt A H g true a ∧ SqL K H q (nV l) ∧ Does A H g a (.soonest t l) Q
def sixs (lo : Int) (n : Nat) : List Nat := sliceRange (sliceBounds (some lo) none (some 2) n).1 (sliceBounds (some lo) none (some 2) n).2.1 (sliceBounds (some lo) none (some 2) n).2.2
theorem s0_0 : sixs 0 0 = [] := by decide +kernel
theorem s0_2 : sixs 0 2 = [0] := by decide +kernel
theorem s0_4 : sixs 0 4 = [0, 2] := by decide +kernel
theorem s0_6 : sixs 0 6 = [0, 2, 4] := by decide +kernel
theorem s0_8 : sixs 0 8 = [0, 2, 4, 6] := by decide +kernel
theorem s1_0 : sixs 1 0 = [] := by decide +kernel
theorem s1_2 : sixs 1 2 = [1] := by decide +kernel
theorem s1_4 : sixs 1 4 = [1, 3] := by decide +kernel
theorem s1_6 : sixs 1 6 = [1, 3, 5] := by decide +kernel
theorem s1_8 : sixs 1 8 = [1, 3, 5, 7] := by decide +kernel
theorem pick_fs {l : List Nat} (h : l.length % 2 = 0) (h8 : l.length ≤ 8) : pickV (nV l) (some 0) none (some 2) = nV (fs (Kv346.pairs l)) := by
  match l, h, h8 with
  | [], _, _ =>
    show (sixs 0 0).filterMap _ = _
    rw [s0_0]
    rfl
  | [x0], h, _ => exact absurd h (by show ¬ (1 % 2 = 0); decide)
  | [x0, x1], _, _ =>
    show (sixs 0 2).filterMap _ = _
    rw [s0_2]
    rfl
  | [x0, x1, x2], h, _ => exact absurd h (by show ¬ (3 % 2 = 0); decide)
  | [x0, x1, x2, x3], _, _ =>
    show (sixs 0 4).filterMap _ = _
    rw [s0_4]
    rfl
  | [x0, x1, x2, x3, x4], h, _ => exact absurd h (by show ¬ (5 % 2 = 0); decide)
  | [x0, x1, x2, x3, x4, x5], _, _ =>
    show (sixs 0 6).filterMap _ = _
    rw [s0_6]
    rfl
  | [x0, x1, x2, x3, x4, x5, x6], h, _ => exact absurd h (by show ¬ (7 % 2 = 0); decide)
  | [x0, x1, x2, x3, x4, x5, x6, x7], _, _ =>
    show (sixs 0 8).filterMap _ = _
    rw [s0_8]
    rfl
theorem pick_sn {l : List Nat} (h : l.length % 2 = 0) (h8 : l.length ≤ 8) : pickV (nV l) (some 1) none (some 2) = nV (sn (Kv346.pairs l)) := by
  match l, h, h8 with
  | [], _, _ =>
    show (sixs 1 0).filterMap _ = _
    rw [s1_0]
    rfl
  | [x0], h, _ => exact absurd h (by show ¬ (1 % 2 = 0); decide)
  | [x0, x1], _, _ =>
    show (sixs 1 2).filterMap _ = _
    rw [s1_2]
    rfl
  | [x0, x1, x2], h, _ => exact absurd h (by show ¬ (3 % 2 = 0); decide)
  | [x0, x1, x2, x3], _, _ =>
    show (sixs 1 4).filterMap _ = _
    rw [s1_4]
    rfl
  | [x0, x1, x2, x3, x4], h, _ => exact absurd h (by show ¬ (5 % 2 = 0); decide)
  | [x0, x1, x2, x3, x4, x5], _, _ =>
    show (sixs 1 6).filterMap _ = _
    rw [s1_6]
    rfl
  | [x0, x1, x2, x3, x4, x5, x6], h, _ => exact absurd h (by show ¬ (7 % 2 = 0); decide)
  | [x0, x1, x2, x3, x4, x5, x6, x7], _, _ =>
    show (sixs 1 8).filterMap _ = _
    rw [s1_8]
    rfl
theorem okR_len {l : List Nat} (h : OkR l) : 1 ≤ (Kv346.pairs l).length ∧ (Kv346.pairs l).length ≤ 4 := by
  have := pairs_len l
  obtain ⟨h1, h2, h3, _⟩ := h
  omega
theorem adV_at {ad : Nat × Nat → Addr} {o : List (Nat × Nat)} {i : Nat} {y : V} (h : (adV ad o)[i]? = some y) : ∃ x, o[i]? = some x ∧ y = .ref (ad x) := by
  unfold adV at h
  rw [List.getElem?_map] at h
  cases e : o[i]? with
  | none => rw [e] at h; cases h
  | some x => rw [e] at h; exact ⟨x, rfl, (Option.some.inj h).symm⟩
theorem fs_snoc {l : List (Nat × Nat)} {x : Nat × Nat} : nV (fs (l ++ [x])) = nV (fs l) ++ [.int (x.1 : Nat)] := by
  unfold nV fs
  rw [List.map_append, List.map_append]
  rfl
/-- by bed is by pair, where the beds are different -/
theorem in_fs {l o : List (Nat × Nat)} {x : Nat × Nat} (hl : (fs l).Nodup) (hx : x ∈ l) (ho : ∀ y ∈ o, y ∈ l) : inV (.int (x.1 : Nat)) (nV (fs o)) = o.contains x := by
  cases e : o.contains x with
  | true =>
    have hm : x ∈ o := by simpa using e
    unfold inV
    rw [List.any_eq_true]
    exact ⟨.int (x.1 : Nat), List.mem_map.mpr ⟨x.1, List.mem_map.mpr ⟨x, hm, rfl⟩, rfl⟩, by rw [eqV_int]; exact decide_eq_true rfl⟩
  | false =>
    have hm : ¬ x ∈ o := fun z => by
      have : o.contains x = true := by simpa using z
      rw [e] at this
      cases this
    unfold inV
    rw [List.any_eq_false]
    intro v hv
    obtain ⟨b, hb, rfl⟩ := List.mem_map.mp hv
    obtain ⟨y, hy, rfl⟩ := List.mem_map.mp hb
    rw [eqV_int, decide_eq_true_eq]
    intro z
    have : y = x := fst_inj hl (ho y hy) hx (Int.ofNat.inj z)
    rw [this] at hy
    exact hm hy
theorem flat_nV {l : List Nat} : (nV l).all flatV = true := by
  rw [List.all_eq_true]
  intro x hx
  obtain ⟨b, _, rfl⟩ := List.mem_map.mp hx
  rfl
theorem OrdersAt.same {H H' : Hp} {r : Addr} {ol : List (List (Nat × Nat))} {ad : Nat × Nat → Addr} {rs : List Addr} (S : Same H H') (h : OrdersAt H r ol ad rs) : OrdersAt H' r ol ad rs :=
  ⟨S _ _ h.lst, h.len, fun i p e => let ⟨o, e1, e2, n⟩ := h.at_ i p e; ⟨o, e1, S _ _ e2, n⟩⟩
/-- a list of visits more -/
theorem OrdersAt.snoc {H : Hp} {r p : Addr} {ol : List (List (Nat × Nat))} {ad : Nat × Nat → Addr} {rs : List Addr} {o : List (Nat × Nat)} (h : OrdersAt H r ol ad rs) (hp : H p = some (.lst (adV ad o))) (n : p ≠ r) :
    OrdersAt (upd H r (.lst (rs.map V.ref ++ [.ref p]))) r (ol ++ [o]) ad (rs ++ [p]) := by
  refine ⟨by rw [upd_same, List.map_append]; rfl, by rw [List.length_append, List.length_append, h.len]; rfl, fun i p' hp' => ?_⟩
  by_cases hi : i < rs.length
  · rw [List.getElem?_append_left hi] at hp'
    obtain ⟨o', e1, e2, n'⟩ := h.at_ i p' hp'
    exact ⟨o', by rw [List.getElem?_append_left (by rw [← h.len]; exact hi)]; exact e1, by rw [upd_ne n']; exact e2, n'⟩
  · rw [List.getElem?_append_right (by omega)] at hp'
    have hj : i - rs.length = 0 := by
      have := (List.getElem?_eq_some_iff.mp hp').1
      simp at this
      omega
    rw [hj] at hp'
    have e : p = p' := Option.some.inj hp'
    subst e
    exact ⟨o, by rw [List.getElem?_append_right (by rw [← h.len]; omega), ← h.len, hj]; rfl, by rw [upd_ne n]; exact hp, n⟩
section
variable {P : Program} {w : World} {K : PySem.W.Frag} {mg : Str → Option Value} {base : Heap} {A : Ad}
theorem ok_beds_of (T : Tx K mg A) : FnOk P w K mg base CX0 1 A.a_beds_of A.d_beds_of ["pairs"] (sp_beds_of K) := by
  refine T.beds_of.fn.ok sc_beds_of (fun vs H Q E h => ?_) (fun cdv Ar outer s H vs Q E hr h => ?_)
  · obtain ⟨q, l, rfl, _⟩ := h
    rfl
  · obtain ⟨q, l, rfl, hq, h2, h8, k⟩ := h
    refine ⟨_, (pss_one (ps_ret (pe_slice3 (pv 0) (po_some pe_int) po_none (po_some pe_int)))), ?_⟩
    refine ⟨_, rfl, _, rfl, _, rfl, q, _, rfl, hq, (by decide), fun p hp => k _ p (Same.rfl.new hp) hp ?_⟩
    rw [upd_same, pick_fs h2 h8]
theorem ok_minutes_of (T : Tx K mg A) : FnOk P w K mg base CX0 1 A.a_minutes_of A.d_minutes_of ["pairs"] (sp_minutes_of K) := by
  refine T.minutes_of.fn.ok sc_minutes_of (fun vs H Q E h => ?_) (fun cdv Ar outer s H vs Q E hr h => ?_)
  · obtain ⟨q, l, rfl, _⟩ := h
    rfl
  · obtain ⟨q, l, rfl, hq, h2, h8, k⟩ := h
    refine ⟨_, (pss_one (ps_ret (pe_slice3 (pv 0) (po_some pe_int) po_none (po_some pe_int)))), ?_⟩
    refine ⟨_, rfl, _, rfl, _, rfl, q, _, rfl, hq, (by decide), fun p hp => k _ p (Same.rfl.new hp) hp ?_⟩
    rw [upd_same, pick_sn h2 h8]
theorem okRound_f {l : List Nat} (h : ¬ OkR l) : Kv346.okRound l = false := by
  cases e : Kv346.okRound l with
  | false => rfl
  | true => exact absurd ((okR_iff l).mp e) h
theorem ok_is_a_round (T : Tx K mg A) : FnOk P w K mg base CX0 2 A.a_is_a_round A.d_is_a_round ["pairs"] (sp_is_a_round K) := by
  refine T.is_a_round.fn.ok sc_is_a_round (fun vs H Q E h => ?_) (fun cdv Ar outer s H vs Q E hr h => ?_)
  · obtain ⟨q, l, rfl, _⟩ := h
    rfl
  · obtain ⟨q, l, rfl, hq, k⟩ := h
    refine ⟨_, (pss_cons (ps_if (PW.pt (pw_or (pt_cmpR op_ne (pe_op op_mod (pe_callB call_len_seq (by rfl) T.n_len PySem.boot_len (pa_cons (pv 0) pa_nil)) pe_int) pe_int (nomark _)) (pw_or1 (pt_not (pt_chain op_le op_le pe_int (pe_callB call_len_seq (by rfl) T.n_len PySem.boot_len (pa_cons (pv 0) pa_nil)) (pe_op op_mul pe_int (pe_gi T.g_MOST_BEDS_OF_A_ROUND rfl)))))))
      (pss_one (ps_ret pe_bl))
      pss_nil)
      (pss_one (ps_ret (pe_and (pe_call (ok_are_different T) (hr.mono (by decide)) rfl T.are_different.mg T.are_different.fn.kp T.are_different.bd .nil pass0 (pa_cons (pe_call (ok_beds_of T) (hr.mono (by decide)) rfl T.beds_of.mg T.beds_of.fn.kp T.beds_of.bd .nil pass0 (pa_cons (pv 0) pa_nil)) pa_nil)) (pe_one (pe_callB (cr_all rfl) (by rfl) T.n_all PyProof.Rows.boot_all (pa_cons (pe_lc rfl sc_is_a_round.nd (pi_list (pe_call (ok_minutes_of T) (hr.mono (by decide)) rfl T.minutes_of.mg T.minutes_of.fn.kp T.minutes_of.bd .nil pass0 (pa_cons (pv 0) pa_nil))) (blkOk_by (N := ["pairs", "how_many"]) (sc := defScope s_is_a_round) (own := [("how_many", 1)]) (by decide +kernel)) (fun _ _ _ _ _ => (pg_name (i := 1) sc_is_a_round.nd rfl (Or.inl rfl) (Or.inr rfl))) (fun _ _ _ _ _ => pts_nil) (fun _ _ _ _ _ => (pe_call (ok_is_at_a_bed T) (hr.mono (by decide)) rfl T.is_at_a_bed.mg T.is_at_a_bed.fn.kp T.is_at_a_bed.bd .nil pass0 (pa_cons (pv 1) pa_nil)))) pa_nil))))))), ?_⟩
    refine ⟨_, rfl, q, _, rfl, .inl hq, _, _, rfl, rfl, (by show (0 : Int) < 2; decide), rfl, _, rfl, ifn (fun c1 => iteT ?_) (fun c1 => ?_)⟩
    · have e := okRound_f (l := l) (fun z => c1 (by rw [List.length_map]; exact congrArg V.int (by have := z.1; omega)))
      rw [e] at k
      exact k H Same.rfl
    have c1 : l.length % 2 = 0 := by
      rw [List.length_map] at c1
      have := V.int.inj c1
      omega
    have bad : ¬ (2 ≤ l.length ∧ l.length ≤ 8) → Q (.bl false) H := fun z => by
      have e := okRound_f (l := l) (fun y => z ⟨y.2.1, y.2.2.1⟩)
      rw [e] at k
      exact k H Same.rfl
    refine ⟨_, rfl, q, _, rfl, .inl hq, _, _, rfl, rfl, _, rfl, ifd (fun c2 => ?_) (fun c2 => ⟨_, rfl, iteT (bad ?_)⟩)⟩
    · refine ⟨_, _, rfl, rfl, .inl ⟨by decide, by decide⟩, _, _, rfl, rfl, _, rfl, ifn (fun c3 => bad ?_) (fun c3 => ?_)⟩
      · rw [List.length_map] at c3
        omega
      rw [List.length_map] at c2 c3
      have c3 : l.length ≤ 8 := by omega
      refine ⟨_, rfl, q, l, rfl, hq, c1, c3, fun H1 q1 SH1 hq1 hL1 => ?_⟩
      have hpl := pairs_len l
      refine ⟨q1, fs (Kv346.pairs l), rfl, SqL.of hL1, (by unfold fs; rw [List.length_map]; omega), fun H2 SH2 => ⟨_, rfl, ifd (fun c4 => ?_) (fun c4 => ?_)⟩⟩
      · refine ⟨_, rfl, q, l, rfl, SqL.same (SqL.same hq SH1) SH2, c1, c3, fun H3 q3 SH3 hq3 hL3 => ?_⟩
        refine ⟨q3, rfl, ⟨_, SqL.of hL3⟩, fun D hD => ?_⟩
        refine lc_list (K := K) (xs := nV (sn (Kv346.pairs l))) (fun i H' => Same H3 H' ∧ H' D = some (.lst (((sn (Kv346.pairs l)).take i).map fun n => .bl (decide (1 ≤ n ∧ n ≤ 60))))) ⟨Same.rfl.new hD, upd_same⟩ (fun i H' _ z => SqL.of (z.1 _ _ hL3)) ?_ ?_
        · rintro i x H' hx ⟨SH, hL⟩
          obtain ⟨n, hn, rfl⟩ := nV_at hx
          refine ⟨rfl, yes (iteT ?_)⟩
          refine ⟨_, rfl, n, rfl, _, hL, ?_, SH.put hD, ?_⟩
          · rw [List.length_map]
            have := List.length_take_le' i (sn (Kv346.pairs l))
            have : (sn (Kv346.pairs l)).length = (Kv346.pairs l).length := by unfold sn; rw [List.length_map]
            exact line_lt (by omega)
          · rw [upd_same, take_snoc hn, List.map_append]
            rfl
        · rintro H4 ⟨SH4, hL4⟩
          rw [List.length_map, List.take_length] at hL4
          refine ⟨D, (sn (Kv346.pairs l)).map fun n => decide (1 ≤ n ∧ n ≤ 60), rfl, SqL.of (by rw [List.map_map]; exact hL4), ?_⟩
          have e : Kv346.okRound l = ((sn (Kv346.pairs l)).map fun n => decide (1 ≤ n ∧ n ≤ 60)).all id := by
            rw [Bool.eq_iff_iff, okR_iff, List.all_eq_true]
            constructor
            · intro z x hx
              obtain ⟨n, hn, rfl⟩ := List.mem_map.mp hx
              obtain ⟨y, hy, rfl⟩ := List.mem_map.mp hn
              exact decide_eq_true (z.2.2.2.2 y hy)
            · intro z
              refine ⟨c1, by omega, c3, c4, fun x hx => ?_⟩
              have := z _ (List.mem_map.mpr ⟨x.2, List.mem_map.mpr ⟨x, hx, rfl⟩, rfl⟩)
              exact of_decide_eq_true this
          rw [← e]
          exact k _ (((SH1.trans SH2).trans SH3).trans SH4)
      · have e := okRound_f (l := l) (fun y => c4 y.2.2.2.1)
        rw [e] at k
        exact k _ (SH1.trans SH2)
    · rw [List.length_map] at c2
      omega
theorem ok_round_refused (T : Tx K mg A) : FnOk P w K mg base CX0 3 A.a_round_refused A.d_round_refused ["shore", "minute", "pairs"] (sp_round_refused K A) := by
  refine T.round_refused.fn.ok sc_round_refused (fun vs H Q E h => ?_) (fun cdv Ar outer s H vs Q E hr h => ?_)
  · obtain ⟨g, a, t, q, l, rfl, _⟩ := h
    rfl
  · obtain ⟨g, a, t, q, l, rfl, S, hq, k1, k2, k3⟩ := h
    refine ⟨_, (pss_cons (ps_if (PW.pt (pw_or (pt_not (pt_val (pe_call (ok_is_minute T) (hr.mono (by decide)) rfl T.is_minute.mg T.is_minute.fn.kp T.is_minute.bd .nil pass0 (pa_cons (pv 1) pa_nil)))) (pw_or1 (pt_not (pt_val (pe_call (ok_is_a_round T) (hr.mono (by decide)) rfl T.is_a_round.mg T.is_a_round.fn.kp T.is_a_round.bd .nil pass0 (pa_cons (pv 2) pa_nil)))))))
      (pss_one (ps_ret (pe_gi T.g_OUT_OF_RANGE rfl)))
      pss_nil)
      (pss_cons (ps_if (pt_not (pt_val (pe_meth (pv 0) T.Shore.cl T.Shore_has_beds.me (ok_Shore_has_beds T) (hr.mono (by decide)) T.Shore_has_beds.bd .nil pass0 (pa_cons (pe_call (ok_beds_of T) (hr.mono (by decide)) rfl T.beds_of.mg T.beds_of.fn.kp T.beds_of.bd .nil pass0 (pa_cons (pv 2) pa_nil)) pa_nil))))
      (pss_one (ps_ret (pe_gi T.g_NO_SUCH_BED rfl)))
      pss_nil)
      (pss_one (ps_ret pe_non)))), ?_⟩
    refine ⟨_, rfl, t, rfl, _, rfl, ifn (fun c1 => iteT (k1 (fun z => c1 z.1) H Same.rfl)) (fun c1 => ?_)⟩
    refine ⟨_, rfl, q, l, rfl, hq, fun H1 SH1 => ⟨_, rfl, ifnb (fun c2 => ?_) (fun c2 => ?_)⟩⟩
    · exact k1 (fun z => by rw [(okR_iff l).mpr z.2] at c2; cases c2) H1 SH1
    have hR := (okR_iff l).mp c2
    have S1 := S.same SH1
    obtain ⟨d1, hs1⟩ := S1.sh
    refine ⟨_, rfl, g.sh, d1, _, rfl, hs1, F_Shore_no_has_beds, _, rfl, q, l, rfl, SqL.same hq SH1, hR.1, hR.2.2.1, fun H2 q2 SH2 hq2 hL2 => ?_⟩
    refine ⟨true, g, a, q2, fs (Kv346.pairs l), rfl, S1.same SH2, SqL.of hL2, ?_, fun H3 SH3 => ⟨_, rfl, ifnb (fun c3 => ?_) (fun c3 => ?_)⟩⟩
    · have := okR_len hR
      unfold fs
      rw [List.length_map]
      omega
    · rw [List.all_eq_false] at c3
      obtain ⟨b, hb, z⟩ := c3
      obtain ⟨x, hx, rfl⟩ := List.mem_map.mp hb
      exact k2 ⟨c1, hR⟩ ⟨x, hx, fun y => z (decide_eq_true y)⟩ H3 ((SH1.trans SH2).trans SH3)
    · rw [List.all_eq_true] at c3
      exact k3 ⟨c1, hR⟩ (fun x hx => of_decide_eq_true (c3 x.1 (List.mem_map.mpr ⟨x, hx, rfl⟩))) H3 ((SH1.trans SH2).trans SH3)
theorem ok_Visit_init (T : Tx K mg A) : FnOk P w K mg base CX0 1 A.a_Visit_init A.d_Visit_init ["self", "bed", "how_many", "begins"] (sp_Visit_init A) := by
  refine T.Visit_init.fn.ok sc_Visit_init (fun vs H Q E h => ?_) (fun cdv Ar outer s H vs Q E hr h => ?_)
  · obtain ⟨p, dx, la, b, n, rfl, _⟩ := h
    rfl
  · obtain ⟨p, dx, la, b, n, rfl, hp, k⟩ := h
    refine ⟨_, (pss_cons (ps_fld (pv 0) (pv 1) rfl)
      (pss_cons (ps_fld (pv 0) (pv 2) rfl)
      (pss_one (ps_fld (pv 0) (pv 3) rfl)))), ?_⟩
    refine ⟨_, rfl, _, rfl, p, _, dx, _, rfl, hp, T.Visit.cl, T.f_Visit_bed, (by decide), ?_⟩
    refine ⟨_, rfl, _, rfl, p, _, dx, _, rfl, upd_same, T.Visit.cl, T.f_Visit_how_many, few1, ?_⟩
    refine ⟨_, rfl, _, rfl, p, _, dx, _, rfl, upd_same, T.Visit.cl, T.f_Visit_begins, few2, ?_⟩
    exact k _ ⟨dx, ats F_Visit_new⟩ fun b o q hb => by rw [upd_ne hb, upd_ne hb, upd_ne hb]; exact q
theorem pairs_nd {l : List (Nat × Nat)} (h : (fs l).Nodup) : l.Nodup := List.Pairwise.of_map _ (fun a b q z => q (by rw [z])) h
/-- one more name for a visit -/
theorem adV_put {l : List (Nat × Nat)} {ad : Nat × Nat → Addr} {i : Nat} {x : Nat × Nat} {p : Addr} (hn : l.Nodup) (hx : l[i]? = some x) : adV (fun y => if y = x then p else ad y) (l.take (i + 1)) = adV ad (l.take i) ++ [.ref p] := by
  rw [take_snoc hx]
  unfold adV
  rw [List.map_append]
  congr 1
  · apply List.map_congr_left
    intro y hy
    have ny : y ≠ x := fun z => by
      rw [z] at hy
      obtain ⟨j, hj, e⟩ := List.getElem_of_mem hy
      have hj2 : j < i := by rw [List.length_take] at hj; omega
      have e2 : l[j]? = some x := by rw [← List.getElem?_take_of_lt hj2, List.getElem?_eq_getElem hj, e]
      have hjl := (List.getElem?_eq_some_iff.mp e2).1
      have hil := (List.getElem?_eq_some_iff.mp hx).1
      have : j = i := (List.getElem_inj (h₀ := hjl) (h₁ := hil) hn).mp (Option.some.inj (by rw [← List.getElem?_eq_getElem, ← List.getElem?_eq_getElem, e2, hx]))
      omega
    show V.ref (if y = x then p else ad y) = _
    rw [if_neg ny]
  · show [V.ref (if x = x then p else ad x)] = _
    rw [if_pos rfl]
theorem ok_visits_of (T : Tx K mg A) : FnOk P w K mg base CX0 3 A.a_visits_of A.d_visits_of ["shore", "minute", "pairs"] (sp_visits_of K A) := by
  refine T.visits_of.fn.ok sc_visits_of (fun vs H Q E h => ?_) (fun cdv Ar outer s H vs Q E hr h => ?_)
  · obtain ⟨g, a, t, q, l, rfl, _⟩ := h
    rfl
  · obtain ⟨g, a, t, q, l, rfl, S, hq, hR, hb, k⟩ := h
    obtain ⟨hl1, hl4⟩ := okR_len hR
    have hnd := pairs_nd (l := Kv346.pairs l) hR.2.2.2.1
    refine ⟨_, (pss_cons (ps_set (i := 3) sc_visits_of.nd rfl (Or.inl rfl) (pe_op op_mul (pe_callB call_len_seq (by rfl) T.n_len PySem.boot_len (pa_cons (pe_call (ok_beds_of T) (hr.mono (by decide)) rfl T.beds_of.mg T.beds_of.fn.kp T.beds_of.bd .nil pass0 (pa_cons (pv 2) pa_nil)) pa_nil)) (pe_op op_add (pe_gi T.g_SPAN rfl) (pe_gi T.g_MOST_MINUTES_AT_A_BED rfl))))
      (pss_cons (ps_set (i := 4) sc_visits_of.nd rfl (Or.inl rfl) (pe_meth (pv 0) T.Shore.cl T.Shore_waters_from.me (ok_Shore_waters_from T) (hr.mono (by decide)) T.Shore_waters_from.bd .nil pass0 (pa_cons (pv 1) (pa_cons (pv 3) pa_nil))))
      (pss_cons (ps_set (i := 5) sc_visits_of.nd rfl (Or.inl rfl) (pe_lst pa_nil))
      (pss_cons (ps_for PassesOwn.never rfl (pi_zip rfl T.n_zip (pa_cons (pe_call (ok_beds_of T) (hr.mono (by decide)) rfl T.beds_of.mg T.beds_of.fn.kp T.beds_of.bd .nil pass0 (pa_cons (pv 2) pa_nil)) (pa_cons (pe_call (ok_minutes_of T) (hr.mono (by decide)) rfl T.minutes_of.mg T.minutes_of.fn.kp T.minutes_of.bd .nil pass0 (pa_cons (pv 2) pa_nil)) pa_nil))) (pg_tup rfl (pgs_cons (pg_name (i := 6) sc_visits_of.nd rfl (Or.inl rfl)) (pgs_cons (pg_name (i := 7) sc_visits_of.nd rfl (Or.inl rfl)) pgs_nil)))
      (pss_one (ps_expr (pe_bm PySem.F.plainAttrs_list PySem.F.slot_list_append PySem.F.type_list_append mt_append (pv 5) (pa_cons (pe_make T.Visit.made (ok_Visit_init T) (hr.mono (by decide)) rfl T.Visit.mg T.Visit_init.bd .nil pass0 (pa_cons (pv 6) (pa_cons (pv 7) (pa_cons (pe_call (ok_first_fits T) (hr.mono (by decide)) rfl T.first_fits.mg T.first_fits.fn.kp T.first_fits.bd .nil pass0 (pa_cons (pv 4) (pa_cons (pe_fld (pe_ix ix_list (pe_fld (pv 0) rfl) (pv 6) (fun _ _ => rfl)) rfl) (pa_cons (pv 7) pa_nil)))) pa_nil)))) pa_nil)))))
      (pss_one (ps_ret (pv 5))))))), ?_⟩
    refine ⟨_, rfl, q, l, rfl, hq, hR.1, hR.2.2.1, fun H1 q1 SH1 hq1 hL1 => ?_⟩
    refine ⟨q1, _, rfl, .inl (SqL.of hL1), _, _, rfl, rfl, _, _, rfl, rfl, .inr ⟨by decide, by decide⟩, ?_⟩
    have em : (((nV (fs (Kv346.pairs l))).length : Nat) : Int) * (1500 + 60) = (((Kv346.pairs l).length * 1560 : Nat) : Int) := by
      rw [List.length_map]
      unfold fs
      rw [List.length_map]
      omega
    have S1 := S.same SH1
    obtain ⟨d1, hs1⟩ := S1.sh
    refine ⟨_, rfl, g.sh, d1, _, rfl, hs1, F_Shore_no_waters_from, _, rfl, _, rfl, true, g, a, t, (Kv346.pairs l).length * 1560, (by rw [← em]; rfl), S1, by omega, fun H2 q2 SH2 hq2 hL2 => ?_⟩
    refine ⟨Nat.zero_le _, fun v hv => ?_⟩
    have SHv : Same H2 (upd H2 v (.lst [])) := Same.rfl.new hv
    have hqv := SqL.same (SqL.same (SqL.same hq SH1) SH2) SHv
    refine ⟨_, rfl, q, l, rfl, hqv, hR.1, hR.2.2.1, fun H3 q3 SH3 hq3 hL3 => ?_⟩
    refine ⟨_, rfl, q, l, rfl, SqL.same hqv SH3, hR.1, hR.2.2.1, fun H4 q4 SH4 hq4 hL4 => ?_⟩
    have hv0 : H v = none := SH1.free (SH2.free hv)
    have hL34 := SH4 _ _ hL3
    have SH24 : Same H2 H4 := (SHv.trans SH3).trans SH4
    have nv3 : v ≠ q3 := ne_of_none upd_same hq3
    have nv4 : v ≠ q4 := ne_of_none (SH3 _ _ upd_same) hq4
    have hv4 : H4 v = some (.lst []) := SH4 _ _ (SH3 _ _ upd_same)
    refine ⟨q3, q4, _, _, rfl, SqL.of hL34, SqL.of hL4, for_zip (K := K) (fun i σ H' => ∃ (ad : Nat × Nat → Addr) (v1 v2 : Option V), σ = [some (.ref g.sh), some (.int t), some (.ref q), some (.int ((Kv346.pairs l).length * 1560 : Nat)), some (.ref q2), some (.ref v), v1, v2] ∧ Same H2 H' ∧ H' q3 = some (.lst (nV (fs (Kv346.pairs l)))) ∧ H' q4 = some (.lst (nV (sn (Kv346.pairs l)))) ∧ H' v = some (.lst (adV ad ((Kv346.pairs l).take i))) ∧ ∀ x ∈ (Kv346.pairs l).take i, VisitAt A H' a t ((Kv346.pairs l).length * 1560) (ad x) x)
      ⟨fun _ => 0, none, none, (by rw [← em]; rfl), SH24, hL34, hL4, hv4, fun x hx => by simp at hx⟩ (fun i σ H' _ ⟨_, _, _, _, _, e3, e4, _⟩ => ⟨SqL.of e3, SqL.of e4⟩) (by unfold fs sn; rw [List.length_map, List.length_map, List.length_map, List.length_map]) ?_ ?_⟩
    · rintro i x y T2 σ H' hx hy ⟨ad, v1, v2, rfl, SH, h3, h4, hV, hA⟩ hT2
      obtain ⟨b, hb', rfl⟩ := nV_at hx
      obtain ⟨n, hn', rfl⟩ := nV_at hy
      unfold fs at hb'
      unfold sn at hn'
      rw [List.getElem?_map] at hb' hn'
      cases ex : (Kv346.pairs l)[i]? with
      | none => rw [ex] at hb'; cases hb'
      | some z =>
        rw [ex] at hb' hn'
        have e1 : z.1 = b := Option.some.inj hb'
        have e2 : z.2 = n := Option.some.inj hn'
        subst e1 e2
        have hz := List.mem_of_getElem? ex
        have SHT : Same H' (upd H' T2 (.tup [.int (z.1 : Nat), .int (z.2 : Nat)])) := Same.rfl.new hT2
        refine ⟨T2, _, rfl, SqT.of upd_same, rfl, _, _, rfl, _, _, rfl, rfl, ?_⟩
        have S5 := ((S1.same SH2).same SH).same SHT
        obtain ⟨d5, hs5⟩ := S5.sh
        obtain ⟨p, hp, db, hB⟩ := S5.bed (hb z hz)
        refine ⟨_, rfl, .inl ⟨rfl, _, SqL.of (SHT _ _ hV)⟩, _, rfl, _, rfl, _, rfl, _, rfl, _, _, _, _, _, rfl, hs5, T.Shore.cl, T.f_Shore_beds, F_Shore_beds, _, rfl, g.bl, _, _, V.ref p, rfl, rfl, SqL.of S5.bl, atI_nat (at_map hp), _, _, _, _, _, rfl, hB, T.Bed.cl, T.f_Bed_height, F_Bed_height, _, rfl, q2, (Kv346.pairs l).length * 1560, a.bed z.1, z.2, (fun k => a.height (t + k)), rfl, SHT _ _ (SH _ _ hL2), by omega, fun H6 q6 SH6 hq6 hL6 => ?_⟩
        intro xv dv nx nd ne
        refine ⟨xv, dv, q6, z.1, z.2, rfl, upd_same, fun H7 hV7 kp => ⟨rfl, ?_⟩⟩
        have SH7 : Same H6 H7 := Same.made nx nd kp
        have SH67 : Same H' H7 := (SHT.trans SH6).trans SH7
        have hv7 := SH67 _ _ hV
        refine ⟨v, _, _, rfl, rfl, hv7, ?_, ?_⟩
        · unfold adV
          rw [List.length_map]
          have := List.length_take_le' i (Kv346.pairs l)
          exact line_lt (by omega)
        · have nxv : v ≠ xv := ne_of_none (SH6 _ _ (SHT _ _ hV)) nx
          have nq6 : v ≠ q6 := ne_of_none (SHT _ _ hV) hq6
          refine ⟨fun y => if y = z then xv else ad y, _, _, rfl, (SH.trans SH67).put hv, (upd_ne nv3.symm).trans (SH67 _ _ h3), (upd_ne nv4.symm).trans (SH67 _ _ h4), by rw [upd_same, adV_put hnd ex], fun x hx => ?_⟩
          by_cases c : x = z
          · subst c
            obtain ⟨dv7, hV7⟩ := hV7
            refine ⟨q6, ⟨dv7, ?_⟩, (upd_ne nq6.symm).trans (SH7 _ _ hL6)⟩
            show upd H7 v _ (if x = x then xv else ad x) = _
            rw [if_pos rfl, upd_ne nxv.symm]
            exact hV7
          · rw [take_snoc ex] at hx
            have hx' : x ∈ (Kv346.pairs l).take i := by
              rcases List.mem_append.mp hx with m | m
              · exact m
              · exact absurd (by simpa using m) c
            obtain ⟨la, ⟨dl, e1⟩, e2⟩ := hA x hx'
            have n1 : ad x ≠ v := ne_of e1 hV (by intro q; cases q)
            have n2 : la ≠ v := ne_of e2 hV (by
              intro q
              injection q with q
              have := congrArg List.length q
              rw [ffL_len] at this
              unfold adV at this
              rw [List.length_map] at this
              have := List.length_take_le' i (Kv346.pairs l)
              omega)
            refine ⟨la, ⟨dl, ?_⟩, (upd_ne n2).trans (SH67 _ _ e2)⟩
            show upd H7 v _ (if x = z then xv else ad x) = _
            rw [if_neg c, upd_ne n1]
            exact SH67 _ _ e1
    · rintro σ H' ⟨ad, v1, v2, rfl, SH, h3, h4, hV, hA⟩
      have e : (nV (fs (Kv346.pairs l))).length = (Kv346.pairs l).length := by rw [List.length_map]; unfold fs; rw [List.length_map]
      rw [e, List.take_length] at hV hA
      exact ⟨_, rfl, k H' v ad ((SH1.trans SH2).trans SH) hv0 hV hA⟩
theorem ok_how_long (T : Tx K mg A) : FnOk P w K mg base CX0 1 A.a_how_long A.d_how_long ["order"] (sp_how_long K A) := by
  refine T.how_long.fn.ok sc_how_long (fun vs H Q E h => ?_) (fun cdv Ar outer s H vs Q E hr h => ?_)
  · obtain ⟨a, t, m, q, o, ad, rfl, _⟩ := h
    rfl
  · obtain ⟨a, t, m, q, o, ad, rfl, hq, hV, hm, k⟩ := h
    refine ⟨_, (pss_cons (ps_set (i := 1) sc_how_long.nd rfl (Or.inl rfl) pe_int)
      (pss_cons (ps_for PassesOwn.never rfl (pi_list (pv 0)) (pg_name (i := 2) sc_how_long.nd rfl (Or.inl rfl))
      (pss_cons (ps_set (i := 3) sc_how_long.nd rfl (Or.inl rfl) (pe_ix ix_list (pe_fld (pv 2) rfl) (pv 1) (fun _ _ => rfl)))
      (pss_cons (ps_if (PW.pt (pw_or (pt_cmpR op_isN (pv 3) pe_non (nomark _)) (pw_or1 (pt_cmpR op_gt (pv 3) (pe_op op_add (pv 1) (pe_gi T.g_SPAN rfl)) (nomark _)))))
      (pss_one (ps_ret pe_non))
      pss_nil)
      (pss_one (ps_set (i := 1) sc_how_long.nd rfl (Or.inl rfl) (pe_op op_add (pv 3) (pe_fld (pv 2) rfl)))))))
      (pss_one (ps_ret (pv 1))))), ?_⟩
    refine ⟨_, rfl, q, rfl, ⟨_, hq⟩, for_list (K := K) (a := q) (xs := adV ad o) (fun i σ H' => ∃ (la : Nat) (v1 v2 : Option V), σ = [some (.ref q), some (.int (la : Nat)), v1, v2] ∧ H' = H ∧ la ≤ i * 1560 ∧ a.through t (o.take i) = some (t + la))
      ⟨0, none, none, rfl, rfl, Nat.zero_le _, by rw [List.take_zero, through_nil]; rfl⟩ (fun i σ H' _ ⟨_, _, _, _, e, _⟩ => by rw [e]; exact hq) ?_ ?_⟩
    · rintro i y σ H' hi ⟨la, v1, v2, rfl, rfl, hla, hth⟩
      obtain ⟨x, hx, rfl⟩ := adV_at hi
      obtain ⟨⟨lb, ⟨dx, hp⟩, hL⟩, h1, h60⟩ := hV x (List.mem_of_getElem? hx)
      have hil : i < o.length := (List.getElem?_eq_some_iff.mp hx).1
      have hi1 : (i + 1) * 1560 ≤ m := Nat.le_trans (Nat.mul_le_mul_right _ hil) hm
      rw [Nat.add_mul] at hi1
      have hat : (ffL (fun k => a.height (t + k)) (a.bed x.1) x.2 m)[la]? = some (oV (ffd (fun k => a.dry x.1 (t + k)) x.2 m (m - la))) := tab_at (by omega)
      refine ⟨_, rfl, _, _, _, _, _, rfl, hp, T.Visit.cl, T.f_Visit_begins, F_Visit_begins, _, rfl, lb, _, _, _, rfl, rfl, SqL.of hL, atI_nat hat, ?_⟩
      have stop : (∀ j, ffd (fun k => a.dry x.1 (t + k)) x.2 m (m - la) = some j → la + 1500 < j) → Q .non H' := fun z => by
        have e := fits_none (a := a) (b := x.1) (t := t) (n := x.2) (m := m) (i := la) h1 (by show la + 1500 + x.2 ≤ m; omega) z
        have e2 : a.through t o = none := through_stop (i := i + 1) (by rw [take_snoc hx, through_snoc hth, e]; rfl)
        rw [e2] at k
        exact k
      cases e : ffd (fun k => a.dry x.1 (t + k)) x.2 m (m - la) with
      | none => exact ⟨_, rfl, rfl, _, rfl, iteT (iteT (stop (fun j hj => by rw [e] at hj; cases hj)))⟩
      | some j =>
        refine ⟨_, rfl, rfl, _, rfl, iteF ⟨_, rfl, _, rfl, _, _, rfl, rfl, _, _, rfl, rfl, _, rfl, ifd (fun c => stop (fun j' hj' => ?_)) (fun c => ?_)⟩⟩
        · rw [e] at hj'
          cases hj'
          omega
        · have e2 := fits_some (a := a) (b := x.1) (t := t) (n := x.2) (m := m) (i := la) h1 (by show la + 1500 + x.2 ≤ m; omega) e (by show j ≤ la + 1500; omega)
          refine ⟨_, rfl, _, rfl, _, _, _, _, _, rfl, hp, T.Visit.cl, T.f_Visit_how_many, F_Visit_how_many, _, _, rfl, rfl, j + x.2, _, _, rfl, rfl, by rw [Nat.add_mul]; omega, ?_⟩
          rw [take_snoc hx, through_snoc hth, e2]
          show some (t + j + x.2) = _
          rw [Nat.add_assoc]
    · rintro σ H' ⟨la, v1, v2, rfl, rfl, hla, hth⟩
      have el : (adV ad o).length = o.length := by unfold adV; rw [List.length_map]
      rw [el, List.take_length] at hth
      refine ⟨_, rfl, ?_⟩
      rw [hth] at k
      have e : (t + la - t : Nat) = la := by omega
      have k' : Q (.int ((t + la - t : Nat) : Int)) H' := k
      rw [e] at k'
      exact k'
theorem ok_with_one_more (T : Tx K mg A) : FnOk P w K mg base CX0 1 A.a_with_one_more A.d_with_one_more ["orders", "visits"] (sp_with_one_more K A) := by
  refine T.with_one_more.fn.ok sc_with_one_more (fun vs H Q E h => ?_) (fun cdv Ar outer s H vs Q E hr h => ?_)
  · obtain ⟨r, q, ol, l, ad, rs, rfl, _⟩ := h
    rfl
  · obtain ⟨r, q, ol, l, ad, rs, rfl, hO, hq, hB, hnd, hl4, hol, hsub, k⟩ := h
    refine ⟨_, (pss_cons (ps_set (i := 2) sc_with_one_more.nd rfl (Or.inl rfl) (pe_lst pa_nil))
      (pss_cons (ps_for PassesOwn.never rfl (pi_list (pv 0)) (pg_name (i := 3) sc_with_one_more.nd rfl (Or.inl rfl))
      (pss_cons (ps_setLc (i := 4) rfl sc_with_one_more.nd rfl rfl (sw_true rfl rfl rfl rfl) (pi_list (pv 3)) (blkOk_by (N := ["orders", "visits", "longer", "order", "beds", "visit"]) (sc := defScope s_with_one_more) (own := [("visit", 5)]) (by decide +kernel)) (fun _ _ _ _ _ => (pg_name (i := 5) sc_with_one_more.nd rfl (Or.inl rfl) (Or.inr rfl))) (fun _ _ _ _ _ => pts_nil) (fun _ _ _ _ _ => (pe_fldK (K := K) rfl (pv 5) rfl)))
      (pss_one (ps_for PassesOwn.never rfl (pi_list (pv 1)) (pg_name (i := 5) sc_with_one_more.nd rfl (Or.inl rfl))
      (pss_one (ps_if (pt_cmpR op_notIn_seq (pe_fld (pv 5) rfl) (pv 4) (by with_unfolding_all rfl))
      (pss_one (ps_expr (pe_bm PySem.F.plainAttrs_list PySem.F.slot_list_append PySem.F.type_list_append mt_append (pv 2) (pa_cons (pe_op op_cat (pv 3) (pe_lst (pa_cons (pv 5) pa_nil))) pa_nil))))
      pss_nil))))))
      (pss_one (ps_ret (pv 2))))), ?_⟩
    refine ⟨Nat.zero_le _, fun lo hlo => ?_⟩
    have SH0 : Same H (upd H lo (.lst [])) := Same.rfl.new hlo
    refine ⟨_, rfl, r, rfl, ⟨_, SqL.of (SH0 _ _ hO.lst)⟩, for_list (K := K) (a := r) (xs := rs.map V.ref) (fun i σ H' => ∃ (rs' : List Addr) (v1 v2 v3 : Option V), σ = [some (.ref r), some (.ref q), some (.ref lo), v1, v2, v3] ∧ Same H H' ∧ OrdersAt H' lo (ext l (ol.take i)) ad rs')
      ⟨[], none, none, none, rfl, SH0, ⟨upd_same, rfl, fun i p hp => by simp at hp⟩⟩ (fun i σ H' _ ⟨_, _, _, _, _, e, _⟩ => SqL.of (e _ _ hO.lst)) ?_ ?_⟩
    · rintro i y σ H' hi ⟨rs', v1, v2, v3, rfl, SH, hN⟩
      obtain ⟨p, hp, rfl⟩ := map_at hi
      obtain ⟨o, ho, hpo, _⟩ := hO.at_ i p hp
      obtain ⟨ho4, hos⟩ := hsub o (List.mem_of_getElem? ho)
      have hpo' := SH _ _ hpo
      refine ⟨_, rfl, p, rfl, ⟨_, SqL.of hpo'⟩, fun D hD => ?_⟩
      refine lc_list (K := K) (xs := adV ad o) (fun j H2 => Same H' H2 ∧ H2 D = some (.lst (nV (fs (o.take j))))) ⟨Same.rfl.new hD, upd_same⟩ (fun j H2 _ z => SqL.of (z.1 _ _ hpo')) ?_ ?_
      · rintro j x H2 hx ⟨SH2, hL2⟩
        obtain ⟨x, hxo, rfl⟩ := adV_at hx
        obtain ⟨dx, u, v, hb⟩ := (hB x (hos x (List.mem_of_getElem? hxo))).same (SH.trans SH2)
        refine ⟨rfl, yes (iteT ?_)⟩
        refine ⟨_, rfl, _, _, _, _, _, rfl, hb, T.Visit.cl, T.f_Visit_bed, F_Visit_bed, _, hL2, ?_, SH2.put hD, ?_⟩
        · rw [List.length_map]
          unfold fs
          rw [List.length_map]
          have := List.length_take_le' j o
          exact line_lt (by omega)
        · rw [upd_same, take_snoc hxo, fs_snoc]
      · rintro H2 ⟨SH2, hL2⟩
        have el : (adV ad o).length = o.length := by unfold adV; rw [List.length_map]
        rw [el, List.take_length] at hL2
        have hq2 := SqL.same (SqL.same hq SH) SH2
        have nlD : lo ≠ D := ne_of_none hN.lst hD
        have nlp : p ≠ lo := ne_of_none hpo hlo
        refine ⟨_, rfl, q, rfl, ⟨_, hq2⟩, for_list (K := K) (a := q) (xs := adV ad l) (fun j σ H3 => ∃ (rs3 : List Addr) (v3 : Option V), σ = [some (.ref r), some (.ref q), some (.ref lo), some (.ref p), some (.ref D), v3] ∧ Same H H3 ∧ H3 D = some (.lst (nV (fs o))) ∧ OrdersAt H3 lo (ext l (ol.take i) ++ ext1 (l.take j) o) ad rs3)
          ⟨rs', _, rfl, SH.trans SH2, hL2, by
            have e0 : ext l (ol.take i) ++ ext1 (l.take 0) o = ext l (ol.take i) := by rw [List.take_zero]; exact List.append_nil _
            rw [e0]
            exact hN.same SH2⟩ (fun j σ H3 _ ⟨_, _, _, e, _⟩ => SqL.same hq e) ?_ ?_⟩
        · rintro j y σ H3 hj ⟨rs3, v3, rfl, SH3, hL3, hN3⟩
          obtain ⟨x, hx, rfl⟩ := adV_at hj
          have hxl := List.mem_of_getElem? hx
          obtain ⟨dx, u, v, hb⟩ := (hB x hxl).same SH3
          have ein : inV (.int (x.1 : Nat)) (nV (fs o)) = o.contains x := in_fs hnd hxl hos
          have est : ext1 (l.take (j + 1)) o = ext1 (l.take j) o ++ (if o.contains x then [] else [o ++ [x]]) := by
            unfold ext1
            rw [take_snoc hx, List.filter_append, List.map_append]
            congr 1
            cases hc : o.contains x with
            | true => rw [List.filter_cons, List.filter_nil, hc]; rfl
            | false => rw [List.filter_cons, List.filter_nil, hc]; rfl
          refine ⟨_, rfl, _, _, _, _, _, rfl, hb, T.Visit.cl, T.f_Visit_bed, F_Visit_bed, _, rfl, D, _, rfl, .inl (SqL.of hL3), rfl, flat_nV, _, rfl, ?_⟩
          show if (!inV (.int (x.1 : Nat)) (nV (fs o))) = true then _ else _
          rw [ein]
          refine ifnb (fun c => ?_) (fun c => ?_)
          · have hpo3 := SH3 _ _ hpo
            refine ⟨_, rfl, .inl ⟨rfl, _, SqL.of hN3.lst⟩, _, rfl, _, rfl, one_line, fun l1 hl1 => ?_⟩
            have n1 : p ≠ l1 := ne_of_none hpo3 hl1
            refine ⟨p, l1, _, _, rfl, rfl, (upd_ne n1).trans hpo3, upd_same, ?_, fun p2 hp2 => ?_⟩
            · unfold adV
              rw [List.length_map]
              exact Nat.le_of_lt (line_lt (by simp only [List.length_cons, List.length_nil]; omega))
            · have SHa : Same H3 (upd (upd H3 l1 (.lst [.ref (ad x)])) p2 (.lst (adV ad o ++ [.ref (ad x)]))) := (Same.rfl.new hl1).new hp2
              have n2 : lo ≠ p2 := ne_of_none ((Same.rfl.new hl1) _ _ hN3.lst) hp2
              have nD : D ≠ lo := fun z => nlD z.symm
              refine ⟨lo, _, _, rfl, rfl, SHa _ _ hN3.lst, ?_, ?_⟩
              · rw [List.length_map, hN3.len, List.length_append]
                have h1 := ext_len l (ol.take i)
                have h2 : (ext1 (l.take j) o).length ≤ 4 := by
                  unfold ext1
                  rw [List.length_map]
                  have := List.length_filter_le (fun x => !(o.contains x)) (l.take j)
                  have := List.length_take_le' j l
                  omega
                have h3 : l.length * (ol.take i).length ≤ 4 * 1000 := Nat.mul_le_mul hl4 (by have := List.length_take_le' i ol; omega)
                exact line_lt (by omega)
              · have e2 : adV ad o ++ [.ref (ad x)] = adV ad (o ++ [x]) := by unfold adV; rw [List.map_append]; rfl
                have hN4 := (hN3.same SHa).snoc (p := p2) (o := o ++ [x]) (by rw [upd_same, e2]) n2.symm
                refine ⟨rs3 ++ [p2], _, rfl, (SH3.trans SHa).put hlo, (upd_ne nD).trans (SHa _ _ hL3), ?_⟩
                rw [est, c, ← List.append_assoc]
                exact hN4
          · refine ⟨rs3, _, rfl, SH3, hL3, ?_⟩
            have e0 : ext1 (l.take (j + 1)) o = ext1 (l.take j) o := by rw [est, c]; exact List.append_nil _
            rw [e0]
            exact hN3
        · rintro σ H3 ⟨rs3, v3, rfl, SH3, hL3, hN3⟩
          have el2 : (adV ad l).length = l.length := by unfold adV; rw [List.length_map]
          rw [el2, List.take_length] at hN3
          refine ⟨rs3, _, _, _, rfl, SH3, ?_⟩
          have e0 : ext l (ol.take (i + 1)) = ext l (ol.take i) ++ ext1 l o := by
            unfold ext
            rw [take_snoc ho, List.flatMap_append, List.flatMap_cons, List.flatMap_nil, List.append_nil]
          rw [e0]
          exact hN3
    · rintro σ H' ⟨rs', v1, v2, v3, rfl, SH, hN⟩
      rw [List.length_map, hO.len, List.take_length] at hN
      exact ⟨_, rfl, k H' lo rs' SH hlo hN⟩
theorem ok_all_orders (T : Tx K mg A) : FnOk P w K mg base CX0 2 A.a_all_orders A.d_all_orders ["visits"] (sp_all_orders K A) := by
  refine T.all_orders.fn.ok sc_all_orders (fun vs H Q E h => ?_) (fun cdv Ar outer s H vs Q E hr h => ?_)
  · obtain ⟨q, l, ad, rfl, _⟩ := h
    rfl
  · obtain ⟨q, l, ad, rfl, hq, hB, hnd, hl4, k⟩ := h
    refine ⟨_, (pss_cons (ps_set (i := 1) sc_all_orders.nd rfl (Or.inl rfl) (pe_lst (pa_cons (pe_lst pa_nil) pa_nil)))
      (pss_cons (ps_for PassesOwn.never rfl (pi_list (pv 0)) (pg_name (i := 2) sc_all_orders.nd rfl (Or.inl rfl))
      (pss_one (ps_set (i := 1) sc_all_orders.nd rfl (Or.inl rfl) (pe_call (ok_with_one_more T) (hr.mono (by decide)) rfl T.with_one_more.mg T.with_one_more.fn.kp T.with_one_more.bd .nil pass0 (pa_cons (pv 1) (pa_cons (pv 0) pa_nil))))))
      (pss_one (ps_ret (pv 1))))), ?_⟩
    refine ⟨Nat.zero_le _, fun e0 he0 => ⟨one_line, fun r0 hr0 => ?_⟩⟩
    have n0 : e0 ≠ r0 := ne_of_none upd_same hr0
    have SH0 : Same H (upd (upd H e0 (.lst [])) r0 (.lst [.ref e0])) := (Same.rfl.new he0).new hr0
    refine ⟨_, rfl, q, rfl, ⟨_, SqL.same hq SH0⟩, for_list (K := K) (a := q) (xs := adV ad l) (fun i σ H' => ∃ (r : Addr) (rs : List Addr) (v : Option V), σ = [some (.ref q), some (.ref r), v] ∧ Same H H' ∧ H r = none ∧ OrdersAt H' r (Kv346.perms l i) ad rs)
      ⟨r0, [e0], none, rfl, SH0, free_upd r0 hr0, ?_⟩ (fun i σ H' _ ⟨_, _, _, _, e, _⟩ => SqL.same hq e) ?_ ?_⟩
    · rw [perms_zero]
      refine ⟨upd_same, rfl, fun i p hp => ?_⟩
      have hi : i = 0 := by
        have := (List.getElem?_eq_some_iff.mp hp).1
        simp at this
        exact this
      subst hi
      have : e0 = p := Option.some.inj hp
      subst this
      exact ⟨[], rfl, (upd_ne n0).trans upd_same, n0⟩
    · rintro i y σ H' hi ⟨r, rs, v, rfl, SH, hr0', hN⟩
      obtain ⟨x, hx, rfl⟩ := adV_at hi
      have hil : i < l.length := (List.getElem?_eq_some_iff.mp hx).1
      have hp4 : (4 : Nat) ^ i ≤ 4 ^ 4 := Nat.pow_le_pow_right (by decide) (by omega)
      have hpl := perms_len l hl4 i
      refine ⟨_, rfl, _, rfl, r, q, Kv346.perms l i, l, ad, rs, rfl, hN, SqL.same hq SH, fun x hx => (hB x hx).same SH, hnd, hl4, by omega, fun o ho => ?_, fun H2 r2 rs2 SH2 hr2 hN2 => ?_⟩
      · obtain ⟨h1, h2⟩ := perms_sub l i o ho
        exact ⟨by omega, h2⟩
      · exact ⟨r2, rs2, _, rfl, SH.trans SH2, SH.free hr2, by rw [perms_succ]; exact hN2⟩
    · rintro σ H' ⟨r, rs, v, rfl, SH, hr, hN⟩
      have el : (adV ad l).length = l.length := by unfold adV; rw [List.length_map]
      rw [el] at hN
      exact ⟨_, rfl, k H' r rs SH hr hN⟩
theorem ok_tell_through (T : Tx K mg A) : FnOk P w K mg base CX0 4 A.a_tell_through A.d_tell_through ["shore", "minute", "pairs"] (sp_tell_through K A) := by
  refine T.tell_through.fn.ok sc_tell_through (fun vs H Q E h => ?_) (fun cdv Ar outer s H vs Q E hr h => ?_)
  · obtain ⟨g, a, t, q, l, rfl, _⟩ := h
    rfl
  · obtain ⟨g, a, t, q, l, rfl, S, hq, k⟩ := h
    refine ⟨_, (pss_cons (ps_set (i := 3) sc_tell_through.nd rfl (Or.inl rfl) (pe_call (ok_round_refused T) (hr.mono (by decide)) rfl T.round_refused.mg T.round_refused.fn.kp T.round_refused.bd .nil pass0 (pa_cons (pv 0) (pa_cons (pv 1) (pa_cons (pv 2) pa_nil)))))
      (pss_cons (ps_if (pt_cmpR op_notN (pv 3) pe_non (nomark _))
      (pss_one (ps_ret (pe_lst (pa_cons (pv 3) pa_nil))))
      pss_nil)
      (pss_cons (ps_set (i := 4) sc_tell_through.nd rfl (Or.inl rfl) (pe_call (ok_how_long T) (hr.mono (by decide)) rfl T.how_long.mg T.how_long.fn.kp T.how_long.bd .nil pass0 (pa_cons (pe_call (ok_visits_of T) (hr.mono (by decide)) rfl T.visits_of.mg T.visits_of.fn.kp T.visits_of.bd .nil pass0 (pa_cons (pv 0) (pa_cons (pv 1) (pa_cons (pv 2) pa_nil)))) pa_nil)))
      (pss_cons (ps_if (pt_cmpR op_isN (pv 4) pe_non (nomark _))
      (pss_one (ps_ret (pe_lst (pa_cons (pe_gi T.g_NOT_SO_SOON rfl) pa_nil))))
      pss_nil)
      (pss_one (ps_ret (pe_lst (pa_cons (pe_op op_add (pv 1) (pv 4)) pa_nil)))))))), ?_⟩
    refine ⟨_, rfl, _, rfl, _, rfl, g, a, t, q, l, rfl, S, hq, fun hbad H1 SH1 => ?_, fun hR ⟨x, hx, hb⟩ H1 SH1 => ?_, fun hR hb H1 SH1 => ?_⟩
    · exact ⟨_, rfl, rfl, _, rfl, iteT ⟨_, rfl, one_line, fun p hp => tells S k (d_through_bad hbad) SH1 rfl hp⟩⟩
    · exact ⟨_, rfl, rfl, _, rfl, iteT ⟨_, rfl, one_line, fun p hp => tells S k (d_through_no hR hx hb) SH1 rfl hp⟩⟩
    · refine ⟨_, rfl, rfl, _, rfl, iteF ?_⟩
      refine ⟨_, rfl, _, rfl, _, rfl, g, a, t, q, l, rfl, S.same SH1, SqL.same hq SH1, hR.2, hb, fun H2 v ad SH2 hv hL hA => ?_⟩
      refine ⟨a, t, _, v, Kv346.pairs l, ad, rfl, SqL.of hL, fun x hx => ⟨hA x hx, hR.2.2.2.2.2 x hx⟩, Nat.le_refl _, ?_⟩
      cases e : a.through t (Kv346.pairs l) with
      | none => exact ⟨_, rfl, rfl, _, rfl, iteT ⟨one_line, fun p hp => tells S k (d_through_none hR hb e) (SH1.trans SH2) rfl hp⟩⟩
      | some s2 =>
        have hge := through_ge e
        refine ⟨_, rfl, rfl, _, rfl, iteF ⟨_, rfl, _, rfl, _, _, rfl, rfl, one_line, fun p hp => tells S k (d_through hR hb e) (SH1.trans SH2) ?_ hp⟩⟩
        show [V.int ((t : Int) + ((s2 - t : Nat) : Int))] = [V.int (s2 : Int)]
        rw [show (t : Int) + ((s2 - t : Nat) : Int) = (s2 : Int) by omega]
/-- the beds told for the best so far -/
def bestL (b : Option (Nat × List (Nat × Nat))) : List Nat := match b with
  | none => []
  | some c => fs c.2
theorem ok_tell_soonest (T : Tx K mg A) : FnOk P w K mg base CX0 4 A.a_tell_soonest A.d_tell_soonest ["shore", "minute", "pairs"] (sp_tell_soonest K A) := by
  refine T.tell_soonest.fn.ok sc_tell_soonest (fun vs H Q E h => ?_) (fun cdv Ar outer s H vs Q E hr h => ?_)
  · obtain ⟨g, a, t, q, l, rfl, _⟩ := h
    rfl
  · obtain ⟨g, a, t, q, l, rfl, S, hq, k⟩ := h
    refine ⟨_, (pss_cons (ps_set (i := 3) sc_tell_soonest.nd rfl (Or.inl rfl) (pe_call (ok_round_refused T) (hr.mono (by decide)) rfl T.round_refused.mg T.round_refused.fn.kp T.round_refused.bd .nil pass0 (pa_cons (pv 0) (pa_cons (pv 1) (pa_cons (pv 2) pa_nil)))))
      (pss_cons (ps_if (pt_cmpR op_notN (pv 3) pe_non (nomark _))
      (pss_one (ps_ret (pe_lst (pa_cons (pv 3) pa_nil))))
      pss_nil)
      (pss_cons (ps_set (i := 4) sc_tell_soonest.nd rfl (Or.inl rfl) pe_non)
      (pss_cons (ps_set (i := 5) sc_tell_soonest.nd rfl (Or.inl rfl) (pe_lst pa_nil))
      (pss_cons (ps_for PassesOwn.never rfl (pi_list (pe_call (ok_all_orders T) (hr.mono (by decide)) rfl T.all_orders.mg T.all_orders.fn.kp T.all_orders.bd .nil pass0 (pa_cons (pe_call (ok_visits_of T) (hr.mono (by decide)) rfl T.visits_of.mg T.visits_of.fn.kp T.visits_of.bd .nil pass0 (pa_cons (pv 0) (pa_cons (pv 1) (pa_cons (pv 2) pa_nil)))) pa_nil))) (pg_name (i := 6) sc_tell_soonest.nd rfl (Or.inl rfl))
      (pss_cons (ps_set (i := 7) sc_tell_soonest.nd rfl (Or.inl rfl) (pe_call (ok_how_long T) (hr.mono (by decide)) rfl T.how_long.mg T.how_long.fn.kp T.how_long.bd .nil pass0 (pa_cons (pv 6) pa_nil)))
      (pss_one (ps_if (PW.pt (pw_and (pt_cmpR op_notN (pv 7) pe_non (nomark _)) (pw_and1 (PW.pt (pw_or (pt_cmpR op_isN (pv 4) pe_non (nomark _)) (pw_or1 (pt_cmpR op_lt (pv 7) (pv 4) (nomark _))))))))
      (pss_cons (ps_set (i := 4) sc_tell_soonest.nd rfl (Or.inl rfl) (pv 7))
      (pss_one (ps_setLc (i := 5) rfl sc_tell_soonest.nd rfl rfl (sw_true rfl rfl rfl rfl) (pi_list (pv 6)) (blkOk_by (N := ["shore", "minute", "pairs", "refused", "shortest", "beds", "order", "lasts", "visit"]) (sc := defScope s_tell_soonest) (own := [("visit", 8)]) (by decide +kernel)) (fun _ _ _ _ _ => (pg_name (i := 8) sc_tell_soonest.nd rfl (Or.inl rfl) (Or.inr rfl))) (fun _ _ _ _ _ => pts_nil) (fun _ _ _ _ _ => (pe_fldK (K := K) rfl (pv 8) rfl)))))
      pss_nil))))
      (pss_cons (ps_if (pt_cmpR op_isN (pv 4) pe_non (nomark _))
      (pss_one (ps_ret (pe_lst (pa_cons (pe_gi T.g_NOT_SO_SOON rfl) pa_nil))))
      pss_nil)
      (pss_one (ps_ret (pe_op op_cat (pe_lst (pa_cons (pe_op op_add (pv 1) (pv 4)) pa_nil)) (pv 5)))))))))), ?_⟩
    refine ⟨_, rfl, _, rfl, _, rfl, g, a, t, q, l, rfl, S, hq, fun hbad H1 SH1 => ?_, fun hR ⟨x, hx, hb⟩ H1 SH1 => ?_, fun hR hb H1 SH1 => ?_⟩
    · exact ⟨_, rfl, rfl, _, rfl, iteT ⟨_, rfl, one_line, fun p hp => tells S k (d_soonest_bad hbad) SH1 rfl hp⟩⟩
    · exact ⟨_, rfl, rfl, _, rfl, iteT ⟨_, rfl, one_line, fun p hp => tells S k (d_soonest_no hR hx hb) SH1 rfl hp⟩⟩
    refine ⟨_, rfl, rfl, _, rfl, iteF ?_⟩
    obtain ⟨hl1, hl4⟩ := okR_len hR.2
    refine ⟨Nat.zero_le _, fun bq0 hbq0 => ?_⟩
    have SHb : Same H1 (upd H1 bq0 (.lst [])) := Same.rfl.new hbq0
    refine ⟨_, rfl, _, rfl, _, rfl, g, a, t, q, l, rfl, (S.same SH1).same SHb, SqL.same (SqL.same hq SH1) SHb, hR.2, hb, fun H2 v ad SH2 hv hL hA => ?_⟩
    refine ⟨v, Kv346.pairs l, ad, rfl, SqL.of hL, fun x hx => (hA x hx).bed, hR.2.2.2.2.1, hl4, fun H3 r rs SH3 hr hO => ?_⟩
    have SH13 : Same H H3 := ((SH1.trans SHb).trans SH2).trans SH3
    refine ⟨r, rfl, ⟨_, SqL.of hO.lst⟩, for_list (K := K) (a := r) (xs := rs.map V.ref) (fun i σ H' => ∃ (b : Option (Nat × List (Nat × Nat))) (bq : Addr) (v6 v7 v8 : Option V), ((Kv346.perms (Kv346.pairs l) (Kv346.pairs l).length).take i).foldl (better a t) none = b ∧
        σ = [some (.ref g.sh), some (.int t), some (.ref q), some .non, some (oV (b.map fun c => c.1 - t)), some (.ref bq), v6, v7, v8] ∧ Same H3 H' ∧ H' bq = some (.lst (nV (bestL b))) ∧ ∀ c, b = some c → t ≤ c.1 ∧ c.2.length ≤ 4)
      ⟨none, bq0, none, none, none, rfl, rfl, Same.rfl, SH3 _ _ (SH2 _ _ upd_same), fun c hc => by cases hc⟩ (fun i σ H' _ ⟨_, _, _, _, _, _, _, e, _⟩ => SqL.of (e _ _ hO.lst)) ?_ ?_⟩
    · rintro i y σ H' hi ⟨b, bq, v6, v7, v8, hb', rfl, SH, hbq, hge⟩
      obtain ⟨p, hp, rfl⟩ := map_at hi
      obtain ⟨o, ho, hpo, _⟩ := hO.at_ i p hp
      have hpo := SH _ _ hpo
      obtain ⟨hol, hos⟩ := perms_sub (Kv346.pairs l) _ o (List.mem_of_getElem? ho)
      have ho4 : o.length ≤ 4 := by omega
      have hstep : ((Kv346.perms (Kv346.pairs l) (Kv346.pairs l).length).take (i + 1)).foldl (better a t) none = better a t b o := by rw [take_snoc ho, List.foldl_append, hb']; rfl
      refine ⟨_, rfl, a, t, (Kv346.pairs l).length * 1560, p, o, ad, rfl, SqL.of hpo, fun x hx => ⟨((hA x (hos x hx)).same SH3).same SH, hR.2.2.2.2.2 x (hos x hx)⟩, by rw [hol]; exact Nat.le_refl _, ?_⟩
      cases e : a.through t o with
      | none =>
        rw [better_none e] at hstep
        exact ⟨_, rfl, rfl, _, rfl, iteF (iteF ⟨b, bq, _, _, _, hstep, rfl, SH, hbq, hge⟩)⟩
      | some n =>
        have hn := through_ge e
        cases b with
        | none =>
          have hnx := hstep.trans (better_first e)
          refine ⟨_, rfl, rfl, _, rfl, iteT ⟨_, rfl, rfl, _, rfl, iteT (iteT ?_)⟩⟩
          refine ⟨_, rfl, ?_⟩
          refine ⟨_, rfl, p, rfl, ⟨_, SqL.of hpo⟩, fun D hD => ?_⟩
          refine lc_list (K := K) (xs := adV ad o) (fun j H2 => Same H' H2 ∧ H2 D = some (.lst (nV (fs (o.take j))))) ⟨Same.rfl.new hD, upd_same⟩ (fun j H2 _ z => SqL.of (z.1 _ _ hpo)) ?_ ?_
          · rintro j x H2 hx ⟨SH2, hL2⟩
            obtain ⟨x, hxo, rfl⟩ := adV_at hx
            obtain ⟨dx, u, v, hb⟩ := (hA x (hos x (List.mem_of_getElem? hxo))).bed.same ((SH3.trans SH).trans SH2)
            refine ⟨rfl, yes (iteT ?_)⟩
            refine ⟨_, rfl, _, _, _, _, _, rfl, hb, T.Visit.cl, T.f_Visit_bed, F_Visit_bed, _, hL2, ?_, SH2.put hD, ?_⟩
            · rw [List.length_map]
              unfold fs
              rw [List.length_map]
              have := List.length_take_le' j o
              exact line_lt (by omega)
            · rw [upd_same, take_snoc hxo, fs_snoc]
          · rintro H2 ⟨SH2, hL2⟩
            have el : (adV ad o).length = o.length := by unfold adV; rw [List.length_map]
            rw [el, List.take_length] at hL2
            exact ⟨some (n, o), D, _, _, _, hnx, rfl, SH.trans SH2, hL2, fun c hc => by cases hc; exact ⟨through_ge e, ho4⟩⟩
        | some c =>
          obtain ⟨hc1, hc2⟩ := hge c rfl
          refine ⟨_, rfl, rfl, _, rfl, iteT ⟨_, rfl, rfl, _, rfl, iteF ⟨_, rfl, _, rfl, _, _, rfl, rfl, _, rfl, ifd (fun d => ?_) (fun d => ?_)⟩⟩⟩
          · have d : ((n - t : Nat) : Int) < ((c.1 - t : Nat) : Int) := d
            have hnx := hstep.trans (better_lt e (by omega))
            refine ⟨_, rfl, ?_⟩
            refine ⟨_, rfl, p, rfl, ⟨_, SqL.of hpo⟩, fun D hD => ?_⟩
            refine lc_list (K := K) (xs := adV ad o) (fun j H2 => Same H' H2 ∧ H2 D = some (.lst (nV (fs (o.take j))))) ⟨Same.rfl.new hD, upd_same⟩ (fun j H2 _ z => SqL.of (z.1 _ _ hpo)) ?_ ?_
            · rintro j x H2 hx ⟨SH2, hL2⟩
              obtain ⟨x, hxo, rfl⟩ := adV_at hx
              obtain ⟨dx, u, v, hb⟩ := (hA x (hos x (List.mem_of_getElem? hxo))).bed.same ((SH3.trans SH).trans SH2)
              refine ⟨rfl, yes (iteT ?_)⟩
              refine ⟨_, rfl, _, _, _, _, _, rfl, hb, T.Visit.cl, T.f_Visit_bed, F_Visit_bed, _, hL2, ?_, SH2.put hD, ?_⟩
              · rw [List.length_map]
                unfold fs
                rw [List.length_map]
                have := List.length_take_le' j o
                exact line_lt (by omega)
              · rw [upd_same, take_snoc hxo, fs_snoc]
            · rintro H2 ⟨SH2, hL2⟩
              have el : (adV ad o).length = o.length := by unfold adV; rw [List.length_map]
              rw [el, List.take_length] at hL2
              exact ⟨some (n, o), D, _, _, _, hnx, rfl, SH.trans SH2, hL2, fun c hc => by cases hc; exact ⟨through_ge e, ho4⟩⟩
          · have d : ¬ ((n - t : Nat) : Int) < ((c.1 - t : Nat) : Int) := d
            have hnx := hstep.trans (better_ge e (by omega))
            exact ⟨some c, bq, _, _, _, hnx, rfl, SH, hbq, hge⟩
    · rintro σ H' ⟨b, bq, v6, v7, v8, hb', rfl, SH, hbq, hge⟩
      rw [List.length_map, hO.len, List.take_length, ← soonest_eq] at hb'
      cases b with
      | none => exact ⟨_, rfl, rfl, _, rfl, iteT ⟨one_line, fun p hp => tells S k (d_soonest_none hR hb hb') (SH13.trans SH) rfl hp⟩⟩
      | some c =>
        obtain ⟨hc1, hc2⟩ := hge c rfl
        refine ⟨_, rfl, rfl, _, rfl, iteF ⟨_, rfl, _, rfl, _, _, rfl, rfl, one_line, fun l1 hl1 => ?_⟩⟩
        have n1 : bq ≠ l1 := ne_of_none hbq hl1
        refine ⟨_, rfl, l1, bq, _, _, rfl, rfl, upd_same, (upd_ne n1).trans hbq, ?_, fun p hp => tells S k (d_soonest hR hb hb') ((SH13.trans SH).new hl1) ?_ hp⟩
        · show 1 + (nV (fs c.2)).length ≤ sizeLine
          rw [List.length_map]
          unfold fs
          rw [List.length_map]
          exact Nat.le_of_lt (line_lt (by omega))
        · show [V.int ((t : Int) + ((c.1 - t : Nat) : Int))] ++ nV (fs c.2) = _
          rw [show (t : Int) + ((c.1 - t : Nat) : Int) = (c.1 : Int) by omega]
          unfold nV fs
          rw [show Kv346Neutral.row ⟨(c.1 : Nat), c.2.map fun y => y.1⟩ = (c.1 : Int) :: (c.2.map fun y => y.1).map fun (z : Nat) => (z : Int) from rfl, List.map_cons, List.map_map, List.map_map, List.map_map]
          rfl
end
end Dh


end
section
set_option Elab.async false
set_option linter.all false
set_option maxRecDepth 100000
set_option maxHeartbeats 2000000
/-! ### the list of calls -/
namespace Dh
open PySem PySem.Spec PyProof.Rows L2
open Kv346 (Abs Wave)
/-- the specification's state -/
def stS (f : Bool) (a : Abs) : Kv346.State := if f then some a else none
theorem stS_t {a : Abs} : stS true a = some a := rfl
theorem stS_f {a : Abs} : stS false a = none := rfl
/-- a shore, begun or not, answers a call as the specification says -/
def Answers (A : Ad) (H : Hp) (g : Sh) (f : Bool) (a : Abs) (c : Kv346.Call) (Q : VK) : Prop := ∀ (H' : Hp) (g' : Sh) (f' : Bool) (a' : Abs) (q : Addr), ShoreAt A H' g' f' a' → stS f' a' = (Kv346.act (stS f a) c).1 → g'.sh = g.sh → Keeps H H' g g' → H q = none → q ∉ g'.fp →
  H' q = some (.lst ((Kv346Neutral.row (Kv346.act (stS f a) c).2).map V.int)) → Q (.ref q) H'
theorem Answers.does {A : Ad} {H : Hp} {g : Sh} {a : Abs} {c : Kv346.Call} {Q : VK} (k : Answers A H g true a c Q) : Does A H g a c Q := fun H' g' q S e kp hq nq hl => by
  refine k H' g' true _ q S ?_ e kp hq nq ?_
  · rw [stS_t, stS_t, act_some]
  · rw [stS_t, act_some]
    exact hl
/-- the request's list: of the module, or known to the object -/
def Arg (K : PySem.W.Frag) (H : Hp) (a : Addr) (xs : List V) : Prop := (∃ o, H a = some (.frz o (.lst xs))) ∨ ∀ H', SqL K H' a xs
theorem Arg.sq {K : PySem.W.Frag} {H : Hp} {a : Addr} {xs : List V} (h : Arg K H a xs) : SqL K H a xs := by
  rcases h with ⟨o, h⟩ | h
  · exact .inl (.inr ⟨o, h⟩)
  · exact h H
theorem Arg.of {K : PySem.W.Frag} {H : Hp} {a : Addr} {xs : List V} (h : SqL K H a xs) (hO : OnlyF H) : Arg K H a xs := by
  rcases h with (h | ⟨o, h⟩) | h
  · rcases hO a with z | ⟨o, u, z⟩
    · rw [z] at h; cases h
    · rw [z] at h; cases h
  · exact .inl ⟨o, h⟩
  · exact .inr fun H' => .inr h
theorem Arg.same {K : PySem.W.Frag} {H H' : Hp} {a : Addr} {xs : List V} (h : Arg K H a xs) (S : Same H H') : Arg K H' a xs := by
  rcases h with ⟨o, h⟩ | h
  · exact .inl ⟨o, S _ _ h⟩
  · exact .inr h
theorem Arg.keeps {A : Ad} {K : PySem.W.Frag} {H H' : Hp} {g g' : Sh} {f : Bool} {b : Abs} {a : Addr} {xs : List V} (h : Arg K H a xs) (S : ShoreAt A H g f b) (kp : Keeps H H' g g') : Arg K H' a xs := by
  rcases h with ⟨o, h⟩ | h
  · refine .inl ⟨o, (kp _ _ h fun m => ?_).1⟩
    obtain ⟨u, e, z⟩ := S.tracked m
    rw [h] at e
    exact z o _ (Option.some.inj e).symm
  · exact .inr h
/-- a list of numbers is written to that is not of the shore -/
theorem Arg.upd {K : PySem.W.Frag} {H : Hp} {a p : Addr} {xs ys : List V} {o : HO} (h : Arg K H a xs) (hp : H p = some (.lst ys)) : Arg K (upd H p o) a xs := by
  rcases h with ⟨u, h⟩ | h
  · exact .inl ⟨u, by rw [upd_ne (ne_of h hp (by intro q; cases q))]; exact h⟩
  · exact .inr h
theorem ShoreAt.off {A : Ad} {H : Hp} {g : Sh} {f : Bool} {b : Abs} {p : Addr} {o : HO} {ys : List V} (S : ShoreAt A H g f b) (hp : H p = some (.lst ys)) (n : p ∉ g.fp) : ShoreAt A (upd H p o) g f b := by
  have kp : ∀ c u, H c = some u → c ≠ p → upd H p o c = some u := fun c u e m => by rw [upd_ne m]; exact e
  have n1 : g.sh ≠ p := fun z => n (mem_fp.mpr (.inl z.symm))
  have n2 : g.wl ≠ p := fun z => n (mem_fp.mpr (.inr (.inl z.symm)))
  have n3 : g.bl ≠ p := fun z => n (mem_fp.mpr (.inr (.inr (.inl z.symm))))
  obtain ⟨ds, s⟩ := S.sh
  refine ⟨⟨ds, kp _ _ s n1⟩, kp _ _ S.wl n2, kp _ _ S.bl n3, S.wb, S.wlen, S.alen, S.blen, S.bn, ?_, ?_, S.ok⟩
  · intro j w hw
    obtain ⟨q, la, e1, e2, z⟩ := S.wv j w hw
    obtain ⟨⟨dw, z1⟩, z2⟩ := id z
    exact ⟨q, la, e1, e2, z.kept kp (ne_of z1 hp (by intro z; cases z)) (fun y => n (mem_fp.mpr (.inr (.inr (.inr (.inr (by rw [← y]; exact List.mem_of_getElem? e2)))))))⟩
  · intro j q hq
    obtain ⟨x', d', e1, e2, dq, e3⟩ := S.bd j q hq
    exact ⟨x', d', e1, e2, dq, kp _ _ e3 (ne_of e3 hp (by intro z; cases z))⟩
theorem cut_at {ns : List Int} {i n : Nat} (h : i + n ≤ ns.length) : cutV (ns.map V.int) (some ((i : Nat) : Int)) (some ((i + n : Nat) : Int)) = ((ns.drop i).take n).map V.int := by
  unfold cutV
  rw [HT.sIx_nat, HT.sIx_nat, List.length_map, Nat.min_eq_left (by omega), Nat.min_eq_left (by omega), show i + n - i = n by omega, List.map_take, List.map_drop]
theorem at_int {ns : List Int} {i : Nat} {z : Int} (h : ns[i]? = some z) : atI (ns.map V.int) ((i : Nat) : Int) = some (V.int z) := atI_nat (by rw [List.getElem?_map, h]; rfl)
def sp_has_a_row : Sp := fun vs H Q _ => ∃ n : Int, vs = [.int n] ∧ ∀ H' : Hp, Same H H' → Q (.bl (inV (.int n) [.int 15, .int 19, .int 20])) H'
def bedL : List V := [.int 3, .int 5, .int 7, .int 8, .int 9, .int 10, .int 11, .int 12, .int 13, .int 14, .int 23]
def sp_begins_with_a_bed : Sp := fun vs H Q _ => ∃ n : Int, vs = [.int n] ∧ ∀ H' : Hp, Same H H' → Q (.bl (inV (.int n) bedL)) H'
/-- the numbers behind a call's number, and its row -/
def RowAt (H : Hp) (ws : List V) (rs : List (List Int)) : Prop := match rs with
  | [] => ws = []
  | r :: _ => ∃ q, ws = [.ref q] ∧ H q = some (.lst (r.map V.int))
def ToldAt (H : Hp) (tl : Addr) (xs : List Int) (rs : List (List Int)) : Prop := ∃ ws, H tl = some (.lst (xs.map V.int ++ ws)) ∧ RowAt H ws rs
theorem ToldAt.same {H H' : Hp} {tl : Addr} {xs : List Int} {rs : List (List Int)} (h : ToldAt H tl xs rs) (S : Same H H') : ToldAt H' tl xs rs := by
  obtain ⟨ws, h1, h2⟩ := h
  refine ⟨ws, S _ _ h1, ?_⟩
  cases rs with
  | nil => exact h2
  | cons r rs =>
    obtain ⟨q, e, h3⟩ := h2
    exact ⟨q, e, S _ _ h3⟩
/-- the bed that a call begins with is there -/
def bedOk (a : Abs) : Kv346.Call → Prop
  | .raise b _ => b < a.beds.length
  | .work b _ => b < a.beds.length
  | .dry b _ => b < a.beds.length
  | .next b _ => b < a.beds.length
  | .wet b _ => b < a.beds.length
  | .lasts b _ => b < a.beds.length
  | .fits b _ _ => b < a.beds.length
  | .longest b _ _ => b < a.beds.length
  | .many b _ _ => b < a.beds.length
  | .stretches b _ _ => b < a.beds.length
  | .look b => b < a.beds.length
  | _ => True
/-- a call of a begun shore, its bed there, by its number -/
def Asks (A : Ad) (lo hi : Int) : Sp := fun vs H Q _ => ∃ (g : Sh) (a : Abs) (p : Int) (xs : List Int) (rs : List (List Int)) (c : Kv346.Call) (tl : Addr), vs = [.ref g.sh, .int p, .ref tl] ∧ Told p xs rs c ∧ (lo ≤ p ∧ p ≤ hi) ∧ ShoreAt A H g true a ∧ ToldAt H tl xs rs ∧ bedOk a c ∧ Does A H g a c Q
def sp_answer_change (A : Ad) : Sp := Asks A 1 5
def sp_answer_from_a_minute (A : Ad) : Sp := Asks A 6 11
def sp_answer_of_minutes (A : Ad) : Sp := Asks A 12 18
def sp_answer_of_rounds_and_all (A : Ad) : Sp := Asks A 19 24
def sp_answer (A : Ad) : Sp := fun vs H Q _ => ∃ (g : Sh) (f : Bool) (a : Abs) (p : Int) (xs : List Int) (rs : List (List Int)) (c : Kv346.Call) (tl : Addr), vs = [.ref g.sh, .int p, .ref tl] ∧ Told p xs rs c ∧ ShoreAt A H g f a ∧ ToldAt H tl xs rs ∧ Answers A H g f a c Q
def sp_answers (K : PySem.W.Frag) : Sp := fun vs H Q _ => ∃ (a : Addr) (ns : List Int), vs = [.ref a] ∧ SqL K H a (ns.map V.int) ∧ OnlyF H ∧ ns.length ≤ 30000 ∧ PyKv346.answers_asked ns = true ∧
  ∀ (H' : Hp) (p : Addr), H' p = some (.lst ((PyKv346.answers ns).map V.int)) → Q (.ref p) H'
theorem told_begin {p : Int} {xs : List Int} {rs : List (List Int)} {c : Kv346.Call} (h : Told p xs rs c) (hp : p = 0) : ∃ b : Nat, xs = [(b : Int)] ∧ rs = [] ∧ c = .begin_ b := by
  cases h <;> first | exact ⟨_, rfl, rfl, rfl⟩ | exact absurd hp (by decide)
theorem told_other {p : Int} {xs : List Int} {rs : List (List Int)} {c : Kv346.Call} (h : Told p xs rs c) (hp : ¬ p = 0) : (∀ b, c ≠ .begin_ b) ∧ 1 ≤ p ∧ p ≤ 24 := by
  cases h <;> first | exact ⟨fun b z => (by cases z), by decide, by decide⟩ | exact absurd rfl hp
theorem told_bed {p : Int} {xs : List Int} {rs : List (List Int)} {c : Kv346.Call} {a : Abs} (h : Told p xs rs c) (hp : inV (.int p) bedL = true) : ∃ (b : Nat) (ys : List Int), xs = (b : Int) :: ys ∧ (b < a.beds.length → bedOk a c) ∧ (¬ b < a.beds.length → a.does c = (a, Kv346.say (-2))) := by
  cases h <;> first
    | exact absurd hp (by decide +kernel)
    | exact ⟨_, _, rfl, fun z => z, fun z => d_no_bed z (by simp)⟩
theorem told_nobed {p : Int} {xs : List Int} {rs : List (List Int)} {c : Kv346.Call} {a : Abs} (h : Told p xs rs c) (hp : inV (.int p) bedL = false) : bedOk a c := by
  cases h <;> first
    | exact absurd hp (by decide +kernel)
    | exact trivial
section
variable {x y z : V} {l : List V}
theorem at0 : atI (x :: l) (0 : Int) = some x := atI_nat (j := 0) rfl
theorem at1 : atI (x :: y :: l) (1 : Int) = some y := atI_nat (j := 1) rfl
theorem at2 : atI (x :: y :: z :: l) (2 : Int) = some z := atI_nat (j := 2) rfl
end
theorem Does.at {A : Ad} {H H1 : Hp} {g : Sh} {a : Abs} {c : Kv346.Call} {Q : VK} (k : Does A H g a c Q) (SH : Same H H1) : Does A H1 g a c Q := fun H' g' q S e kp hq nq hl =>
  k H' g' q S e (fun b o e n => kp b o (SH b o e) n) (SH.free hq) nq hl
theorem row_nV {l : List Nat} : (l.map Int.ofNat).map V.int = nV l := by rw [List.map_map]; rfl
theorem wn_at {p : Int} {xs : List Int} {rs : List (List Int)} {c : Kv346.Call} (h : Told p xs rs c) : atI (([1, 3, 1, 2, 1, 2, 1, 2, 2, 2, 2, 3, 3, 3, 3, 2, 2, 2, 2, 1, 1, 1, 0, 1, 0] : List Int).map V.int) p = some (.int (xs.length : Nat)) := by
  cases h <;> rfl
theorem row_in {p : Int} {xs : List Int} {rs : List (List Int)} {c : Kv346.Call} (h : Told p xs rs c) : inV (.int p) [.int 15, .int 19, .int 20] = decide (rs.length = 1) := by
  cases h <;> rfl
section
variable {P : Program} {w : World} {K : PySem.W.Frag} {mg : Str → Option Value} {base : Heap} {A : Ad}
theorem ok_has_a_row (T : Tx K mg A) : FnOk P w K mg base CX0 1 A.a_has_a_row A.d_has_a_row ["number"] sp_has_a_row := by
  refine T.has_a_row.fn.ok sc_has_a_row (fun vs H Q E h => ?_) (fun cdv Ar outer s H vs Q E hr h => ?_)
  · obtain ⟨n, rfl, _⟩ := h
    rfl
  · obtain ⟨n, rfl, k⟩ := h
    refine ⟨_, (pss_one (ps_ret (pe_cmpR op_in_seq (pv 0) (pe_tup (pa_cons (pe_gi T.g_TOGETHER rfl) (pa_cons (pe_gi T.g_THROUGH rfl) (pa_cons (pe_gi T.g_SOONEST rfl) pa_nil)))) (by with_unfolding_all rfl)))), ?_⟩
    exact ⟨_, rfl, (by show 3 ≤ sizeLine; decide), fun tp htp => ⟨tp, _, rfl, .inr (SqT.of upd_same), rfl, rfl, k _ (Same.rfl.new htp)⟩⟩
theorem ok_begins_with_a_bed (T : Tx K mg A) : FnOk P w K mg base CX0 1 A.a_begins_with_a_bed A.d_begins_with_a_bed ["number"] sp_begins_with_a_bed := by
  refine T.begins_with_a_bed.fn.ok sc_begins_with_a_bed (fun vs H Q E h => ?_) (fun cdv Ar outer s H vs Q E hr h => ?_)
  · obtain ⟨n, rfl, _⟩ := h
    rfl
  · obtain ⟨n, rfl, k⟩ := h
    refine ⟨_, (pss_one (ps_ret (pe_cmpR op_in_seq (pv 0) (pe_tup (pa_cons (pe_gi T.g_RAISE rfl) (pa_cons (pe_gi T.g_WORK rfl) (pa_cons (pe_gi T.g_DRY rfl) (pa_cons (pe_gi T.g_NEXT rfl) (pa_cons (pe_gi T.g_WET rfl) (pa_cons (pe_gi T.g_LASTS rfl) (pa_cons (pe_gi T.g_FITS rfl) (pa_cons (pe_gi T.g_LONGEST rfl) (pa_cons (pe_gi T.g_MANY rfl) (pa_cons (pe_gi T.g_STRETCHES rfl) (pa_cons (pe_gi T.g_LOOK rfl) pa_nil)))))))))))) (by with_unfolding_all rfl)))), ?_⟩
    exact ⟨_, rfl, (by show 11 ≤ sizeLine; decide), fun tp htp => ⟨tp, _, rfl, .inr (SqT.of upd_same), rfl, rfl, k _ (Same.rfl.new htp)⟩⟩
theorem ok_answer_change (T : Tx K mg A) : FnOk P w K mg base CX0 6 A.a_answer_change A.d_answer_change ["shore", "number", "told"] (sp_answer_change A) := by
  refine T.answer_change.fn.ok sc_answer_change (fun vs H Q E h => ?_) (fun cdv Ar outer s H vs Q E hr h => ?_)
  · obtain ⟨g, a, p, xs, rs, c, tl, rfl, _⟩ := h
    rfl
  · obtain ⟨g, a, p, xs, rs, c, tl, rfl, hT, hp, S, ⟨ws, hL, hW⟩, hb, k⟩ := h
    refine ⟨_, (pss_cons (ps_if (pt_cmpR op_eq (pv 1) (pe_gi T.g_WAVE rfl) (nomark _))
      (pss_one (ps_ret (pe_call (ok_add_wave T) (hr.mono (by decide)) rfl T.add_wave.mg T.add_wave.fn.kp T.add_wave.bd .nil pass0 (pa_cons (pv 0) (pa_cons (pe_ix ix_list (pv 2) pe_int (fun _ _ => rfl)) (pa_cons (pe_ix ix_list (pv 2) pe_int (fun _ _ => rfl)) (pa_cons (pe_ix ix_list (pv 2) pe_int (fun _ _ => rfl)) pa_nil)))))))
      pss_nil)
      (pss_cons (ps_if (pt_cmpR op_eq (pv 1) (pe_gi T.g_BED rfl) (nomark _))
      (pss_one (ps_ret (pe_call (ok_add_bed T) (hr.mono (by decide)) rfl T.add_bed.mg T.add_bed.fn.kp T.add_bed.bd .nil pass0 (pa_cons (pv 0) (pa_cons (pe_ix ix_list (pv 2) pe_int (fun _ _ => rfl)) pa_nil)))))
      pss_nil)
      (pss_cons (ps_if (pt_cmpR op_eq (pv 1) (pe_gi T.g_RAISE rfl) (nomark _))
      (pss_one (ps_ret (pe_call (ok_raise_bed T) (hr.mono (by decide)) rfl T.raise_bed.mg T.raise_bed.fn.kp T.raise_bed.bd .nil pass0 (pa_cons (pv 0) (pa_cons (pe_ix ix_list (pv 2) pe_int (fun _ _ => rfl)) (pa_cons (pe_ix ix_list (pv 2) pe_int (fun _ _ => rfl)) pa_nil))))))
      pss_nil)
      (pss_cons (ps_if (pt_cmpR op_eq (pv 1) (pe_gi T.g_MINUTES rfl) (nomark _))
      (pss_one (ps_ret (pe_call (ok_pass_minutes T) (hr.mono (by decide)) rfl T.pass_minutes.mg T.pass_minutes.fn.kp T.pass_minutes.bd .nil pass0 (pa_cons (pv 0) (pa_cons (pe_ix ix_list (pv 2) pe_int (fun _ _ => rfl)) pa_nil)))))
      pss_nil)
      (pss_one (ps_ret (pe_call (ok_work_at_bed T) (hr.mono (by decide)) rfl T.work_at_bed.mg T.work_at_bed.fn.kp T.work_at_bed.bd .nil pass0 (pa_cons (pv 0) (pa_cons (pe_ix ix_list (pv 2) pe_int (fun _ _ => rfl)) (pa_cons (pe_ix ix_list (pv 2) pe_int (fun _ _ => rfl)) pa_nil)))))))))), ?_⟩
    cases hT with
    | begin_ b => exact absurd hp (by decide)
    | wave e h l =>
      have e : ws = [] := hW
      subst e
      have hL : H tl = some (.lst [.int e, .int h, .int l]) := hL
      exact ⟨_, rfl, rfl, _, rfl, iteT ⟨_, rfl, _, rfl, tl, _, _, _, rfl, rfl, SqL.of hL, at0, _, rfl, tl, _, _, _, rfl, rfl, SqL.of hL, at1, _, rfl, tl, _, _, _, rfl, rfl, SqL.of hL, at2, g, a, e, h, l, rfl, S, k⟩⟩
    | bed h =>
      have e : ws = [] := hW
      subst e
      have hL : H tl = some (.lst [.int h]) := hL
      exact ⟨_, rfl, rfl, _, rfl, iteF ⟨_, rfl, rfl, _, rfl, iteT ⟨_, rfl, _, rfl, tl, _, _, _, rfl, rfl, SqL.of hL, at0, g, a, h, rfl, S, k⟩⟩⟩
    | raise b h =>
      have e : ws = [] := hW
      subst e
      have hL : H tl = some (.lst [.int b, .int h]) := hL
      exact ⟨_, rfl, rfl, _, rfl, iteF ⟨_, rfl, rfl, _, rfl, iteF ⟨_, rfl, rfl, _, rfl, iteT ⟨_, rfl, _, rfl, tl, _, _, _, rfl, rfl, SqL.of hL, at0, _, rfl, tl, _, _, _, rfl, rfl, SqL.of hL, at1, g, a, b, h, rfl, S, hb, k⟩⟩⟩⟩
    | minutes n =>
      have e : ws = [] := hW
      subst e
      have hL : H tl = some (.lst [.int n]) := hL
      exact ⟨_, rfl, rfl, _, rfl, iteF ⟨_, rfl, rfl, _, rfl, iteF ⟨_, rfl, rfl, _, rfl, iteF ⟨_, rfl, rfl, _, rfl, iteT ⟨_, rfl, _, rfl, tl, _, _, _, rfl, rfl, SqL.of hL, at0, g, a, n, rfl, S, k⟩⟩⟩⟩⟩
    | work b n =>
      have e : ws = [] := hW
      subst e
      have hL : H tl = some (.lst [.int b, .int n]) := hL
      exact ⟨_, rfl, rfl, _, rfl, iteF ⟨_, rfl, rfl, _, rfl, iteF ⟨_, rfl, rfl, _, rfl, iteF ⟨_, rfl, rfl, _, rfl, iteF ⟨_, rfl, _, rfl, tl, _, _, _, rfl, rfl, SqL.of hL, at0, _, rfl, tl, _, _, _, rfl, rfl, SqL.of hL, at1, g, a, b, n, rfl, S, hb, k⟩⟩⟩⟩⟩
    | height t => exact absurd hp (by decide)
    | dry b t => exact absurd hp (by decide)
    | next b t => exact absurd hp (by decide)
    | wet b t => exact absurd hp (by decide)
    | lasts b t => exact absurd hp (by decide)
    | fits b t n => exact absurd hp (by decide)
    | longest b t n => exact absurd hp (by decide)
    | many b t n => exact absurd hp (by decide)
    | stretches b t n => exact absurd hp (by decide)
    | together t n l hl => exact absurd hp (by decide)
    | highest t n => exact absurd hp (by decide)
    | lowest t n => exact absurd hp (by decide)
    | least t n => exact absurd hp (by decide)
    | through t l hl => exact absurd hp (by decide)
    | soonest t l hl => exact absurd hp (by decide)
    | all t => exact absurd hp (by decide)
    | works => exact absurd hp (by decide)
    | look b => exact absurd hp (by decide)
    | state => exact absurd hp (by decide)
theorem ok_answer_from_a_minute (T : Tx K mg A) : FnOk P w K mg base CX0 6 A.a_answer_from_a_minute A.d_answer_from_a_minute ["shore", "number", "told"] (sp_answer_from_a_minute A) := by
  refine T.answer_from_a_minute.fn.ok sc_answer_from_a_minute (fun vs H Q E h => ?_) (fun cdv Ar outer s H vs Q E hr h => ?_)
  · obtain ⟨g, a, p, xs, rs, c, tl, rfl, _⟩ := h
    rfl
  · obtain ⟨g, a, p, xs, rs, c, tl, rfl, hT, hp, S, ⟨ws, hL, hW⟩, hb, k⟩ := h
    refine ⟨_, (pss_cons (ps_if (pt_cmpR op_eq (pv 1) (pe_gi T.g_HEIGHT rfl) (nomark _))
      (pss_one (ps_ret (pe_call (ok_tell_height T) (hr.mono (by decide)) rfl T.tell_height.mg T.tell_height.fn.kp T.tell_height.bd .nil pass0 (pa_cons (pv 0) (pa_cons (pe_ix ix_list (pv 2) pe_int (fun _ _ => rfl)) pa_nil)))))
      pss_nil)
      (pss_cons (ps_if (pt_cmpR op_eq (pv 1) (pe_gi T.g_DRY rfl) (nomark _))
      (pss_one (ps_ret (pe_call (ok_tell_dry T) (hr.mono (by decide)) rfl T.tell_dry.mg T.tell_dry.fn.kp T.tell_dry.bd .nil pass0 (pa_cons (pv 0) (pa_cons (pe_ix ix_list (pv 2) pe_int (fun _ _ => rfl)) (pa_cons (pe_ix ix_list (pv 2) pe_int (fun _ _ => rfl)) pa_nil))))))
      pss_nil)
      (pss_cons (ps_if (pt_cmpR op_eq (pv 1) (pe_gi T.g_NEXT rfl) (nomark _))
      (pss_one (ps_ret (pe_call (ok_tell_next T) (hr.mono (by decide)) rfl T.tell_next.mg T.tell_next.fn.kp T.tell_next.bd .nil pass0 (pa_cons (pv 0) (pa_cons (pe_ix ix_list (pv 2) pe_int (fun _ _ => rfl)) (pa_cons (pe_ix ix_list (pv 2) pe_int (fun _ _ => rfl)) pa_nil))))))
      pss_nil)
      (pss_cons (ps_if (pt_cmpR op_eq (pv 1) (pe_gi T.g_WET rfl) (nomark _))
      (pss_one (ps_ret (pe_call (ok_tell_wet T) (hr.mono (by decide)) rfl T.tell_wet.mg T.tell_wet.fn.kp T.tell_wet.bd .nil pass0 (pa_cons (pv 0) (pa_cons (pe_ix ix_list (pv 2) pe_int (fun _ _ => rfl)) (pa_cons (pe_ix ix_list (pv 2) pe_int (fun _ _ => rfl)) pa_nil))))))
      pss_nil)
      (pss_cons (ps_if (pt_cmpR op_eq (pv 1) (pe_gi T.g_LASTS rfl) (nomark _))
      (pss_one (ps_ret (pe_call (ok_tell_lasts T) (hr.mono (by decide)) rfl T.tell_lasts.mg T.tell_lasts.fn.kp T.tell_lasts.bd .nil pass0 (pa_cons (pv 0) (pa_cons (pe_ix ix_list (pv 2) pe_int (fun _ _ => rfl)) (pa_cons (pe_ix ix_list (pv 2) pe_int (fun _ _ => rfl)) pa_nil))))))
      pss_nil)
      (pss_one (ps_ret (pe_call (ok_tell_fits T) (hr.mono (by decide)) rfl T.tell_fits.mg T.tell_fits.fn.kp T.tell_fits.bd .nil pass0 (pa_cons (pv 0) (pa_cons (pe_ix ix_list (pv 2) pe_int (fun _ _ => rfl)) (pa_cons (pe_ix ix_list (pv 2) pe_int (fun _ _ => rfl)) (pa_cons (pe_ix ix_list (pv 2) pe_int (fun _ _ => rfl)) pa_nil)))))))))))), ?_⟩
    cases hT with
    | begin_ b => exact absurd hp (by decide)
    | wave e h l => exact absurd hp (by decide)
    | bed h => exact absurd hp (by decide)
    | raise b h => exact absurd hp (by decide)
    | minutes n => exact absurd hp (by decide)
    | work b n => exact absurd hp (by decide)
    | height t =>
      have e : ws = [] := hW
      subst e
      have hL : H tl = some (.lst [.int t]) := hL
      exact ⟨_, rfl, rfl, _, rfl, iteT ⟨_, rfl, _, rfl, tl, _, _, _, rfl, rfl, SqL.of hL, at0, g, a, t, rfl, S, k⟩⟩
    | dry b t =>
      have e : ws = [] := hW
      subst e
      have hL : H tl = some (.lst [.int b, .int t]) := hL
      exact ⟨_, rfl, rfl, _, rfl, iteF ⟨_, rfl, rfl, _, rfl, iteT ⟨_, rfl, _, rfl, tl, _, _, _, rfl, rfl, SqL.of hL, at0, _, rfl, tl, _, _, _, rfl, rfl, SqL.of hL, at1, g, a, b, t, rfl, S, hb, k⟩⟩⟩
    | next b t =>
      have e : ws = [] := hW
      subst e
      have hL : H tl = some (.lst [.int b, .int t]) := hL
      exact ⟨_, rfl, rfl, _, rfl, iteF ⟨_, rfl, rfl, _, rfl, iteF ⟨_, rfl, rfl, _, rfl, iteT ⟨_, rfl, _, rfl, tl, _, _, _, rfl, rfl, SqL.of hL, at0, _, rfl, tl, _, _, _, rfl, rfl, SqL.of hL, at1, g, a, b, t, rfl, S, hb, k⟩⟩⟩⟩
    | wet b t =>
      have e : ws = [] := hW
      subst e
      have hL : H tl = some (.lst [.int b, .int t]) := hL
      exact ⟨_, rfl, rfl, _, rfl, iteF ⟨_, rfl, rfl, _, rfl, iteF ⟨_, rfl, rfl, _, rfl, iteF ⟨_, rfl, rfl, _, rfl, iteT ⟨_, rfl, _, rfl, tl, _, _, _, rfl, rfl, SqL.of hL, at0, _, rfl, tl, _, _, _, rfl, rfl, SqL.of hL, at1, g, a, b, t, rfl, S, hb, k⟩⟩⟩⟩⟩
    | lasts b t =>
      have e : ws = [] := hW
      subst e
      have hL : H tl = some (.lst [.int b, .int t]) := hL
      exact ⟨_, rfl, rfl, _, rfl, iteF ⟨_, rfl, rfl, _, rfl, iteF ⟨_, rfl, rfl, _, rfl, iteF ⟨_, rfl, rfl, _, rfl, iteF ⟨_, rfl, rfl, _, rfl, iteT ⟨_, rfl, _, rfl, tl, _, _, _, rfl, rfl, SqL.of hL, at0, _, rfl, tl, _, _, _, rfl, rfl, SqL.of hL, at1, g, a, b, t, rfl, S, hb, k⟩⟩⟩⟩⟩⟩
    | fits b t n =>
      have e : ws = [] := hW
      subst e
      have hL : H tl = some (.lst [.int b, .int t, .int n]) := hL
      exact ⟨_, rfl, rfl, _, rfl, iteF ⟨_, rfl, rfl, _, rfl, iteF ⟨_, rfl, rfl, _, rfl, iteF ⟨_, rfl, rfl, _, rfl, iteF ⟨_, rfl, rfl, _, rfl, iteF ⟨_, rfl, _, rfl, tl, _, _, _, rfl, rfl, SqL.of hL, at0, _, rfl, tl, _, _, _, rfl, rfl, SqL.of hL, at1, _, rfl, tl, _, _, _, rfl, rfl, SqL.of hL, at2, g, a, b, t, n, rfl, S, hb, k⟩⟩⟩⟩⟩⟩
    | longest b t n => exact absurd hp (by decide)
    | many b t n => exact absurd hp (by decide)
    | stretches b t n => exact absurd hp (by decide)
    | together t n l hl => exact absurd hp (by decide)
    | highest t n => exact absurd hp (by decide)
    | lowest t n => exact absurd hp (by decide)
    | least t n => exact absurd hp (by decide)
    | through t l hl => exact absurd hp (by decide)
    | soonest t l hl => exact absurd hp (by decide)
    | all t => exact absurd hp (by decide)
    | works => exact absurd hp (by decide)
    | look b => exact absurd hp (by decide)
    | state => exact absurd hp (by decide)
theorem ok_answer_of_minutes (T : Tx K mg A) : FnOk P w K mg base CX0 7 A.a_answer_of_minutes A.d_answer_of_minutes ["shore", "number", "told"] (sp_answer_of_minutes A) := by
  refine T.answer_of_minutes.fn.ok sc_answer_of_minutes (fun vs H Q E h => ?_) (fun cdv Ar outer s H vs Q E hr h => ?_)
  · obtain ⟨g, a, p, xs, rs, c, tl, rfl, _⟩ := h
    rfl
  · obtain ⟨g, a, p, xs, rs, c, tl, rfl, hT, hp, S, ⟨ws, hL, hW⟩, hb, k⟩ := h
    refine ⟨_, (pss_cons (ps_if (pt_cmpR op_eq (pv 1) (pe_gi T.g_LONGEST rfl) (nomark _))
      (pss_one (ps_ret (pe_call (ok_tell_longest T) (hr.mono (by decide)) rfl T.tell_longest.mg T.tell_longest.fn.kp T.tell_longest.bd .nil pass0 (pa_cons (pv 0) (pa_cons (pe_ix ix_list (pv 2) pe_int (fun _ _ => rfl)) (pa_cons (pe_ix ix_list (pv 2) pe_int (fun _ _ => rfl)) (pa_cons (pe_ix ix_list (pv 2) pe_int (fun _ _ => rfl)) pa_nil)))))))
      pss_nil)
      (pss_cons (ps_if (pt_cmpR op_eq (pv 1) (pe_gi T.g_MANY rfl) (nomark _))
      (pss_one (ps_ret (pe_call (ok_tell_many T) (hr.mono (by decide)) rfl T.tell_many.mg T.tell_many.fn.kp T.tell_many.bd .nil pass0 (pa_cons (pv 0) (pa_cons (pe_ix ix_list (pv 2) pe_int (fun _ _ => rfl)) (pa_cons (pe_ix ix_list (pv 2) pe_int (fun _ _ => rfl)) (pa_cons (pe_ix ix_list (pv 2) pe_int (fun _ _ => rfl)) pa_nil)))))))
      pss_nil)
      (pss_cons (ps_if (pt_cmpR op_eq (pv 1) (pe_gi T.g_STRETCHES rfl) (nomark _))
      (pss_one (ps_ret (pe_call (ok_tell_stretches T) (hr.mono (by decide)) rfl T.tell_stretches.mg T.tell_stretches.fn.kp T.tell_stretches.bd .nil pass0 (pa_cons (pv 0) (pa_cons (pe_ix ix_list (pv 2) pe_int (fun _ _ => rfl)) (pa_cons (pe_ix ix_list (pv 2) pe_int (fun _ _ => rfl)) (pa_cons (pe_ix ix_list (pv 2) pe_int (fun _ _ => rfl)) pa_nil)))))))
      pss_nil)
      (pss_cons (ps_if (pt_cmpR op_eq (pv 1) (pe_gi T.g_TOGETHER rfl) (nomark _))
      (pss_one (ps_ret (pe_call (ok_tell_together T) (hr.mono (by decide)) rfl T.tell_together.mg T.tell_together.fn.kp T.tell_together.bd .nil pass0 (pa_cons (pv 0) (pa_cons (pe_ix ix_list (pv 2) pe_int (fun _ _ => rfl)) (pa_cons (pe_ix ix_list (pv 2) pe_int (fun _ _ => rfl)) (pa_cons (pe_ix ix_list (pv 2) pe_int (fun _ _ => rfl)) pa_nil)))))))
      pss_nil)
      (pss_cons (ps_if (pt_cmpR op_eq (pv 1) (pe_gi T.g_HIGHEST rfl) (nomark _))
      (pss_one (ps_ret (pe_call (ok_tell_highest T) (hr.mono (by decide)) rfl T.tell_highest.mg T.tell_highest.fn.kp T.tell_highest.bd .nil pass0 (pa_cons (pv 0) (pa_cons (pe_ix ix_list (pv 2) pe_int (fun _ _ => rfl)) (pa_cons (pe_ix ix_list (pv 2) pe_int (fun _ _ => rfl)) pa_nil))))))
      pss_nil)
      (pss_cons (ps_if (pt_cmpR op_eq (pv 1) (pe_gi T.g_LOWEST rfl) (nomark _))
      (pss_one (ps_ret (pe_call (ok_tell_lowest T) (hr.mono (by decide)) rfl T.tell_lowest.mg T.tell_lowest.fn.kp T.tell_lowest.bd .nil pass0 (pa_cons (pv 0) (pa_cons (pe_ix ix_list (pv 2) pe_int (fun _ _ => rfl)) (pa_cons (pe_ix ix_list (pv 2) pe_int (fun _ _ => rfl)) pa_nil))))))
      pss_nil)
      (pss_one (ps_ret (pe_call (ok_tell_least T) (hr.mono (by decide)) rfl T.tell_least.mg T.tell_least.fn.kp T.tell_least.bd .nil pass0 (pa_cons (pv 0) (pa_cons (pe_ix ix_list (pv 2) pe_int (fun _ _ => rfl)) (pa_cons (pe_ix ix_list (pv 2) pe_int (fun _ _ => rfl)) pa_nil)))))))))))), ?_⟩
    cases hT with
    | begin_ b => exact absurd hp (by decide)
    | wave e h l => exact absurd hp (by decide)
    | bed h => exact absurd hp (by decide)
    | raise b h => exact absurd hp (by decide)
    | minutes n => exact absurd hp (by decide)
    | work b n => exact absurd hp (by decide)
    | height t => exact absurd hp (by decide)
    | dry b t => exact absurd hp (by decide)
    | next b t => exact absurd hp (by decide)
    | wet b t => exact absurd hp (by decide)
    | lasts b t => exact absurd hp (by decide)
    | fits b t n => exact absurd hp (by decide)
    | longest b t n =>
      have e : ws = [] := hW
      subst e
      have hL : H tl = some (.lst [.int b, .int t, .int n]) := hL
      exact ⟨_, rfl, rfl, _, rfl, iteT ⟨_, rfl, _, rfl, tl, _, _, _, rfl, rfl, SqL.of hL, at0, _, rfl, tl, _, _, _, rfl, rfl, SqL.of hL, at1, _, rfl, tl, _, _, _, rfl, rfl, SqL.of hL, at2, g, a, b, t, n, rfl, S, hb, k⟩⟩
    | many b t n =>
      have e : ws = [] := hW
      subst e
      have hL : H tl = some (.lst [.int b, .int t, .int n]) := hL
      exact ⟨_, rfl, rfl, _, rfl, iteF ⟨_, rfl, rfl, _, rfl, iteT ⟨_, rfl, _, rfl, tl, _, _, _, rfl, rfl, SqL.of hL, at0, _, rfl, tl, _, _, _, rfl, rfl, SqL.of hL, at1, _, rfl, tl, _, _, _, rfl, rfl, SqL.of hL, at2, g, a, b, t, n, rfl, S, hb, k⟩⟩⟩
    | stretches b t n =>
      have e : ws = [] := hW
      subst e
      have hL : H tl = some (.lst [.int b, .int t, .int n]) := hL
      exact ⟨_, rfl, rfl, _, rfl, iteF ⟨_, rfl, rfl, _, rfl, iteF ⟨_, rfl, rfl, _, rfl, iteT ⟨_, rfl, _, rfl, tl, _, _, _, rfl, rfl, SqL.of hL, at0, _, rfl, tl, _, _, _, rfl, rfl, SqL.of hL, at1, _, rfl, tl, _, _, _, rfl, rfl, SqL.of hL, at2, g, a, b, t, n, rfl, S, hb, k⟩⟩⟩⟩
    | together t n l hl =>
      obtain ⟨q, rfl, hq⟩ := hW
      rw [row_nV] at hq
      have hL : H tl = some (.lst [.int t, .int n, .ref q]) := hL
      exact ⟨_, rfl, rfl, _, rfl, iteF ⟨_, rfl, rfl, _, rfl, iteF ⟨_, rfl, rfl, _, rfl, iteF ⟨_, rfl, rfl, _, rfl, iteT ⟨_, rfl, _, rfl, tl, _, _, _, rfl, rfl, SqL.of hL, at0, _, rfl, tl, _, _, _, rfl, rfl, SqL.of hL, at1, _, rfl, tl, _, _, _, rfl, rfl, SqL.of hL, at2, g, a, t, n, q, l, rfl, S, SqL.of hq, k⟩⟩⟩⟩⟩
    | highest t n =>
      have e : ws = [] := hW
      subst e
      have hL : H tl = some (.lst [.int t, .int n]) := hL
      exact ⟨_, rfl, rfl, _, rfl, iteF ⟨_, rfl, rfl, _, rfl, iteF ⟨_, rfl, rfl, _, rfl, iteF ⟨_, rfl, rfl, _, rfl, iteF ⟨_, rfl, rfl, _, rfl, iteT ⟨_, rfl, _, rfl, tl, _, _, _, rfl, rfl, SqL.of hL, at0, _, rfl, tl, _, _, _, rfl, rfl, SqL.of hL, at1, g, a, t, n, rfl, S, k⟩⟩⟩⟩⟩⟩
    | lowest t n =>
      have e : ws = [] := hW
      subst e
      have hL : H tl = some (.lst [.int t, .int n]) := hL
      exact ⟨_, rfl, rfl, _, rfl, iteF ⟨_, rfl, rfl, _, rfl, iteF ⟨_, rfl, rfl, _, rfl, iteF ⟨_, rfl, rfl, _, rfl, iteF ⟨_, rfl, rfl, _, rfl, iteF ⟨_, rfl, rfl, _, rfl, iteT ⟨_, rfl, _, rfl, tl, _, _, _, rfl, rfl, SqL.of hL, at0, _, rfl, tl, _, _, _, rfl, rfl, SqL.of hL, at1, g, a, t, n, rfl, S, k⟩⟩⟩⟩⟩⟩⟩
    | least t n =>
      have e : ws = [] := hW
      subst e
      have hL : H tl = some (.lst [.int t, .int n]) := hL
      exact ⟨_, rfl, rfl, _, rfl, iteF ⟨_, rfl, rfl, _, rfl, iteF ⟨_, rfl, rfl, _, rfl, iteF ⟨_, rfl, rfl, _, rfl, iteF ⟨_, rfl, rfl, _, rfl, iteF ⟨_, rfl, rfl, _, rfl, iteF ⟨_, rfl, _, rfl, tl, _, _, _, rfl, rfl, SqL.of hL, at0, _, rfl, tl, _, _, _, rfl, rfl, SqL.of hL, at1, g, a, t, n, rfl, S, k⟩⟩⟩⟩⟩⟩⟩
    | through t l hl => exact absurd hp (by decide)
    | soonest t l hl => exact absurd hp (by decide)
    | all t => exact absurd hp (by decide)
    | works => exact absurd hp (by decide)
    | look b => exact absurd hp (by decide)
    | state => exact absurd hp (by decide)
theorem ok_answer_of_rounds_and_all (T : Tx K mg A) : FnOk P w K mg base CX0 6 A.a_answer_of_rounds_and_all A.d_answer_of_rounds_and_all ["shore", "number", "told"] (sp_answer_of_rounds_and_all A) := by
  refine T.answer_of_rounds_and_all.fn.ok sc_answer_of_rounds_and_all (fun vs H Q E h => ?_) (fun cdv Ar outer s H vs Q E hr h => ?_)
  · obtain ⟨g, a, p, xs, rs, c, tl, rfl, _⟩ := h
    rfl
  · obtain ⟨g, a, p, xs, rs, c, tl, rfl, hT, hp, S, ⟨ws, hL, hW⟩, hb, k⟩ := h
    refine ⟨_, (pss_cons (ps_if (pt_cmpR op_eq (pv 1) (pe_gi T.g_THROUGH rfl) (nomark _))
      (pss_one (ps_ret (pe_call (ok_tell_through T) (hr.mono (by decide)) rfl T.tell_through.mg T.tell_through.fn.kp T.tell_through.bd .nil pass0 (pa_cons (pv 0) (pa_cons (pe_ix ix_list (pv 2) pe_int (fun _ _ => rfl)) (pa_cons (pe_ix ix_list (pv 2) pe_int (fun _ _ => rfl)) pa_nil))))))
      pss_nil)
      (pss_cons (ps_if (pt_cmpR op_eq (pv 1) (pe_gi T.g_SOONEST rfl) (nomark _))
      (pss_one (ps_ret (pe_call (ok_tell_soonest T) (hr.mono (by decide)) rfl T.tell_soonest.mg T.tell_soonest.fn.kp T.tell_soonest.bd .nil pass0 (pa_cons (pv 0) (pa_cons (pe_ix ix_list (pv 2) pe_int (fun _ _ => rfl)) (pa_cons (pe_ix ix_list (pv 2) pe_int (fun _ _ => rfl)) pa_nil))))))
      pss_nil)
      (pss_cons (ps_if (pt_cmpR op_eq (pv 1) (pe_gi T.g_ALL rfl) (nomark _))
      (pss_one (ps_ret (pe_call (ok_tell_all T) (hr.mono (by decide)) rfl T.tell_all.mg T.tell_all.fn.kp T.tell_all.bd .nil pass0 (pa_cons (pv 0) (pa_cons (pe_ix ix_list (pv 2) pe_int (fun _ _ => rfl)) pa_nil)))))
      pss_nil)
      (pss_cons (ps_if (pt_cmpR op_eq (pv 1) (pe_gi T.g_WORKS rfl) (nomark _))
      (pss_one (ps_ret (pe_call (ok_tell_works T) (hr.mono (by decide)) rfl T.tell_works.mg T.tell_works.fn.kp T.tell_works.bd .nil pass0 (pa_cons (pv 0) pa_nil))))
      pss_nil)
      (pss_cons (ps_if (pt_cmpR op_eq (pv 1) (pe_gi T.g_LOOK rfl) (nomark _))
      (pss_one (ps_ret (pe_call (ok_tell_look T) (hr.mono (by decide)) rfl T.tell_look.mg T.tell_look.fn.kp T.tell_look.bd .nil pass0 (pa_cons (pv 0) (pa_cons (pe_ix ix_list (pv 2) pe_int (fun _ _ => rfl)) pa_nil)))))
      pss_nil)
      (pss_one (ps_ret (pe_call (ok_tell_state T) (hr.mono (by decide)) rfl T.tell_state.mg T.tell_state.fn.kp T.tell_state.bd .nil pass0 (pa_cons (pv 0) pa_nil))))))))), ?_⟩
    cases hT with
    | begin_ b => exact absurd hp (by decide)
    | wave e h l => exact absurd hp (by decide)
    | bed h => exact absurd hp (by decide)
    | raise b h => exact absurd hp (by decide)
    | minutes n => exact absurd hp (by decide)
    | work b n => exact absurd hp (by decide)
    | height t => exact absurd hp (by decide)
    | dry b t => exact absurd hp (by decide)
    | next b t => exact absurd hp (by decide)
    | wet b t => exact absurd hp (by decide)
    | lasts b t => exact absurd hp (by decide)
    | fits b t n => exact absurd hp (by decide)
    | longest b t n => exact absurd hp (by decide)
    | many b t n => exact absurd hp (by decide)
    | stretches b t n => exact absurd hp (by decide)
    | together t n l hl => exact absurd hp (by decide)
    | highest t n => exact absurd hp (by decide)
    | lowest t n => exact absurd hp (by decide)
    | least t n => exact absurd hp (by decide)
    | through t l hl =>
      obtain ⟨q, rfl, hq⟩ := hW
      rw [row_nV] at hq
      have hL : H tl = some (.lst [.int t, .ref q]) := hL
      exact ⟨_, rfl, rfl, _, rfl, iteT ⟨_, rfl, _, rfl, tl, _, _, _, rfl, rfl, SqL.of hL, at0, _, rfl, tl, _, _, _, rfl, rfl, SqL.of hL, at1, g, a, t, q, l, rfl, S, SqL.of hq, k⟩⟩
    | soonest t l hl =>
      obtain ⟨q, rfl, hq⟩ := hW
      rw [row_nV] at hq
      have hL : H tl = some (.lst [.int t, .ref q]) := hL
      exact ⟨_, rfl, rfl, _, rfl, iteF ⟨_, rfl, rfl, _, rfl, iteT ⟨_, rfl, _, rfl, tl, _, _, _, rfl, rfl, SqL.of hL, at0, _, rfl, tl, _, _, _, rfl, rfl, SqL.of hL, at1, g, a, t, q, l, rfl, S, SqL.of hq, k⟩⟩⟩
    | all t =>
      have e : ws = [] := hW
      subst e
      have hL : H tl = some (.lst [.int t]) := hL
      exact ⟨_, rfl, rfl, _, rfl, iteF ⟨_, rfl, rfl, _, rfl, iteF ⟨_, rfl, rfl, _, rfl, iteT ⟨_, rfl, _, rfl, tl, _, _, _, rfl, rfl, SqL.of hL, at0, g, a, t, rfl, S, k⟩⟩⟩⟩
    | works =>
      have e : ws = [] := hW
      subst e
      have hL : H tl = some (.lst []) := hL
      exact ⟨_, rfl, rfl, _, rfl, iteF ⟨_, rfl, rfl, _, rfl, iteF ⟨_, rfl, rfl, _, rfl, iteF ⟨_, rfl, rfl, _, rfl, iteT ⟨_, rfl, g, a, rfl, S, k⟩⟩⟩⟩⟩
    | look b =>
      have e : ws = [] := hW
      subst e
      have hL : H tl = some (.lst [.int b]) := hL
      exact ⟨_, rfl, rfl, _, rfl, iteF ⟨_, rfl, rfl, _, rfl, iteF ⟨_, rfl, rfl, _, rfl, iteF ⟨_, rfl, rfl, _, rfl, iteF ⟨_, rfl, rfl, _, rfl, iteT ⟨_, rfl, _, rfl, tl, _, _, _, rfl, rfl, SqL.of hL, at0, g, a, b, rfl, S, hb, k⟩⟩⟩⟩⟩⟩
    | state =>
      have e : ws = [] := hW
      subst e
      have hL : H tl = some (.lst []) := hL
      exact ⟨_, rfl, rfl, _, rfl, iteF ⟨_, rfl, rfl, _, rfl, iteF ⟨_, rfl, rfl, _, rfl, iteF ⟨_, rfl, rfl, _, rfl, iteF ⟨_, rfl, rfl, _, rfl, iteF ⟨_, rfl, g, a, rfl, S, k⟩⟩⟩⟩⟩⟩
theorem ok_answer (T : Tx K mg A) : FnOk P w K mg base CX0 8 A.a_answer A.d_answer ["shore", "number", "told"] (sp_answer A) := by
  refine T.answer.fn.ok sc_answer (fun vs H Q E h => ?_) (fun cdv Ar outer s H vs Q E hr h => ?_)
  · obtain ⟨g, f, a, p, xs, rs, c, tl, rfl, _⟩ := h
    rfl
  · obtain ⟨g, f, a, p, xs, rs, c, tl, rfl, hT, S, hTA, k⟩ := h
    obtain ⟨dx, hs⟩ := S.sh
    refine ⟨_, (pss_cons (ps_if (pt_cmpR op_eq (pv 1) (pe_gi T.g_BEGIN rfl) (nomark _))
      (pss_one (ps_ret (pe_call (ok_begin T) (hr.mono (by decide)) rfl T.begin.mg T.begin.fn.kp T.begin.bd .nil pass0 (pa_cons (pv 0) (pa_cons (pe_ix ix_list (pv 2) pe_int (fun _ _ => rfl)) pa_nil)))))
      pss_nil)
      (pss_cons (ps_if (pt_not (pt_val (pe_fld (pv 0) rfl)))
      (pss_one (ps_ret (pe_lst (pa_cons (pe_gi T.g_NOT_BEGUN rfl) pa_nil))))
      pss_nil)
      (pss_cons (ps_if (PW.pt (pw_and (pt_val (pe_call (ok_begins_with_a_bed T) (hr.mono (by decide)) rfl T.begins_with_a_bed.mg T.begins_with_a_bed.fn.kp T.begins_with_a_bed.bd .nil pass0 (pa_cons (pv 1) pa_nil))) (pw_and1 (pt_not (pt_val (pe_meth (pv 0) T.Shore.cl T.Shore_has_bed.me (ok_Shore_has_bed T) (hr.mono (by decide)) T.Shore_has_bed.bd .nil pass0 (pa_cons (pe_ix ix_list (pv 2) pe_int (fun _ _ => rfl)) pa_nil)))))))
      (pss_one (ps_ret (pe_lst (pa_cons (pe_gi T.g_NO_SUCH_BED rfl) pa_nil))))
      pss_nil)
      (pss_cons (ps_if (pt_cmpR op_le (pv 1) (pe_gi T.g_WORK rfl) (nomark _))
      (pss_one (ps_ret (pe_call (ok_answer_change T) (hr.mono (by decide)) rfl T.answer_change.mg T.answer_change.fn.kp T.answer_change.bd .nil pass0 (pa_cons (pv 0) (pa_cons (pv 1) (pa_cons (pv 2) pa_nil))))))
      pss_nil)
      (pss_cons (ps_if (pt_cmpR op_le (pv 1) (pe_gi T.g_FITS rfl) (nomark _))
      (pss_one (ps_ret (pe_call (ok_answer_from_a_minute T) (hr.mono (by decide)) rfl T.answer_from_a_minute.mg T.answer_from_a_minute.fn.kp T.answer_from_a_minute.bd .nil pass0 (pa_cons (pv 0) (pa_cons (pv 1) (pa_cons (pv 2) pa_nil))))))
      pss_nil)
      (pss_cons (ps_if (pt_cmpR op_le (pv 1) (pe_gi T.g_LEAST rfl) (nomark _))
      (pss_one (ps_ret (pe_call (ok_answer_of_minutes T) (hr.mono (by decide)) rfl T.answer_of_minutes.mg T.answer_of_minutes.fn.kp T.answer_of_minutes.bd .nil pass0 (pa_cons (pv 0) (pa_cons (pv 1) (pa_cons (pv 2) pa_nil))))))
      pss_nil)
      (pss_one (ps_ret (pe_call (ok_answer_of_rounds_and_all T) (hr.mono (by decide)) rfl T.answer_of_rounds_and_all.mg T.answer_of_rounds_and_all.fn.kp T.answer_of_rounds_and_all.bd .nil pass0 (pa_cons (pv 0) (pa_cons (pv 1) (pa_cons (pv 2) pa_nil)))))))))))), ?_⟩
    refine ⟨_, rfl, rfl, _, rfl, ifd (fun c0 => ?_) (fun c0 => ?_)⟩
    · obtain ⟨b, rfl, rfl, rfl⟩ := told_begin hT (V.int.inj c0)
      obtain ⟨ws, hL, hW⟩ := hTA
      have e : ws = [] := hW
      subst e
      have hL : H tl = some (.lst [.int b]) := hL
      refine ⟨_, rfl, _, rfl, tl, _, _, _, rfl, rfl, SqL.of hL, at0, f, g, a, b, rfl, S, fun hb H' g' q S' es kp hq nq hl => ?_, fun hb H' q SH hq hl => ?_⟩
      · exact k H' g' true _ q S' (by rw [act_begin hb]; rfl) es kp hq nq (by rw [act_begin hb]; exact hl)
      · exact k H' g f a q (S.same SH) (by rw [act_begin_bad hb]) rfl (.of_same SH) hq (S.out hq) (by rw [act_begin_bad hb]; exact hl)
    · obtain ⟨hnb, hp1, hp2⟩ := told_other hT (fun z => c0 (by rw [z]))
      refine ⟨_, rfl, _, _, _, _, _, rfl, hs, T.Shore.cl, T.f_Shore_begun, F_Shore_begun, _, rfl, ?_⟩
      cases f with
      | false =>
        refine iteT ⟨one_line, fun q hq => k _ g false a q (S.same (Same.rfl.new hq)) (by rw [stS_f, act_none hnb]) rfl (.of_same (Same.rfl.new hq)) hq (S.out hq) ?_⟩
        rw [upd_same, stS_f, act_none hnb]
        rfl
      | true =>
        have k := k.does
        refine iteF ⟨_, rfl, p, rfl, fun H1 SH1 => ⟨_, rfl, ?_⟩⟩
        have S1 := S.same SH1
        have hTA1 := hTA.same SH1
        have k1 := k.at SH1
        cases eb : inV (.int p) bedL with
        | true =>
          obtain ⟨b, ys, rfl, hok, hno⟩ := told_bed (a := a) hT eb
          obtain ⟨ws, hL, hW⟩ := id hTA1
          have hL : H1 tl = some (.lst (.int b :: (ys.map V.int ++ ws))) := hL
          obtain ⟨d1, hs1⟩ := S1.sh
          refine iteT ⟨_, rfl, g.sh, d1, _, rfl, hs1, F_Shore_no_has_bed, _, rfl, tl, _, _, _, rfl, rfl, SqL.of hL, at0, true, g, a, b, rfl, S1, _, rfl, ifn (fun c1 => refuses S1 k1 (hno c1)) (fun c1 => ?_)⟩
          refine ⟨_, rfl, _, _, rfl, rfl, _, rfl, ifd (fun c2 => ?_) (fun c2 => ?_)⟩
          · exact ⟨_, rfl, _, rfl, _, rfl, g, a, p, _, rs, c, tl, rfl, hT, ⟨hp1, c2⟩, S1, hTA1, hok c1, k1⟩
          refine ⟨_, rfl, _, _, rfl, rfl, _, rfl, ifd (fun c3 => ?_) (fun c3 => ?_)⟩
          · exact ⟨_, rfl, _, rfl, _, rfl, g, a, p, _, rs, c, tl, rfl, hT, ⟨by omega, c3⟩, S1, hTA1, hok c1, k1⟩
          refine ⟨_, rfl, _, _, rfl, rfl, _, rfl, ifd (fun c4 => ?_) (fun c4 => ?_)⟩
          · exact ⟨_, rfl, _, rfl, _, rfl, g, a, p, _, rs, c, tl, rfl, hT, ⟨by omega, c4⟩, S1, hTA1, hok c1, k1⟩
          · exact ⟨_, rfl, _, rfl, _, rfl, g, a, p, _, rs, c, tl, rfl, hT, ⟨by omega, hp2⟩, S1, hTA1, hok c1, k1⟩
        | false =>
          have hok := told_nobed (a := a) hT eb
          refine iteF (iteF ?_)
          refine ⟨_, rfl, _, _, rfl, rfl, _, rfl, ifd (fun c2 => ?_) (fun c2 => ?_)⟩
          · exact ⟨_, rfl, _, rfl, _, rfl, g, a, p, _, rs, c, tl, rfl, hT, ⟨hp1, c2⟩, S1, hTA1, hok, k1⟩
          refine ⟨_, rfl, _, _, rfl, rfl, _, rfl, ifd (fun c3 => ?_) (fun c3 => ?_)⟩
          · exact ⟨_, rfl, _, rfl, _, rfl, g, a, p, _, rs, c, tl, rfl, hT, ⟨by omega, c3⟩, S1, hTA1, hok, k1⟩
          refine ⟨_, rfl, _, _, rfl, rfl, _, rfl, ifd (fun c4 => ?_) (fun c4 => ?_)⟩
          · exact ⟨_, rfl, _, rfl, _, rfl, g, a, p, _, rs, c, tl, rfl, hT, ⟨by omega, c4⟩, S1, hTA1, hok, k1⟩
          · exact ⟨_, rfl, _, rfl, _, rfl, g, a, p, _, rs, c, tl, rfl, hT, ⟨by omega, hp2⟩, S1, hTA1, hok, k1⟩
theorem ok_answers (T : Tx K mg A) : FnOk P w K mg base CX0 9 A.a_answers A.d_answers ["calls"] (sp_answers K) := by
  refine T.answers.fn.ok sc_answers (fun vs H Q E h => ?_) (fun cdv Ar outer s H vs Q E hr h => ?_)
  · obtain ⟨a, ns, rfl, _⟩ := h
    rfl
  · obtain ⟨la, ns, rfl, hS, hO, hlen, hask, k⟩ := h
    have hA := Arg.of hS hO
    obtain ⟨raw, hc0, hb0, ha0, hl0⟩ := asked_start hask
    refine ⟨_, (pss_cons (ps_set (i := 1) sc_answers.nd rfl (Or.inl rfl) (pe_make0 T.Shore.made (ok_Shore_init T) (hr.mono (by decide)) rfl T.Shore.mg T.Shore_init.bd .nil pass0))
      (pss_cons (ps_set (i := 2) sc_answers.nd rfl (Or.inl rfl) (pe_lst pa_nil))
      (pss_cons (ps_set (i := 3) sc_answers.nd rfl (Or.inl rfl) pe_int)
      (pss_cons (ps_while PassesOwn.never (pt_cmpR op_lt (pv 3) (pe_callB call_len_seq (by rfl) T.n_len PySem.boot_len (pa_cons (pv 0) pa_nil)) (nomark _))
      (pss_cons (ps_set (i := 4) sc_answers.nd rfl (Or.inl rfl) (pe_ix ix_list (pv 0) (pv 3) (fun _ _ => rfl)))
      (pss_cons (ps_set (i := 5) sc_answers.nd rfl (Or.inl rfl) (pe_op op_add (pe_op op_add (pv 3) pe_int) (pe_ix ix_tup (pe_gt T.t_WHOLE_NUMBERS.1 rfl) (pv 4) (fun _ _ => rfl))))
      (pss_cons (ps_set (i := 6) sc_answers.nd rfl (Or.inl rfl) (pe_slice sl_list (pv 0) (po_some (pe_op op_add (pv 3) pe_int)) (po_some (pv 5))))
      (pss_cons (ps_if (pt_val (pe_call (ok_has_a_row T) (hr.mono (by decide)) rfl T.has_a_row.mg T.has_a_row.fn.kp T.has_a_row.bd .nil pass0 (pa_cons (pv 4) pa_nil)))
      (pss_cons (ps_set (i := 7) sc_answers.nd rfl (Or.inl rfl) (pe_op op_add (pv 5) pe_int))
      (pss_cons (ps_set (i := 5) sc_answers.nd rfl (Or.inl rfl) (pe_op op_add (pv 7) (pe_ix ix_list (pv 0) (pv 5) (fun _ _ => rfl))))
      (pss_one (ps_expr (pe_bm PySem.F.plainAttrs_list PySem.F.slot_list_append PySem.F.type_list_append mt_append (pv 6) (pa_cons (pe_slice sl_list (pv 0) (po_some (pv 7)) (po_some (pv 5))) pa_nil))))))
      pss_nil)
      (pss_cons (ps_set (i := 8) sc_answers.nd rfl (Or.inl rfl) (pe_call (ok_answer T) (hr.mono (by decide)) rfl T.answer.mg T.answer.fn.kp T.answer.bd .nil pass0 (pa_cons (pv 1) (pa_cons (pv 4) (pa_cons (pv 6) pa_nil)))))
      (pss_cons (ps_expr (pe_bm PySem.F.plainAttrs_list PySem.F.slot_list_append PySem.F.type_list_append mt_append (pv 2) (pa_cons (pe_callB call_len_seq (by rfl) T.n_len PySem.boot_len (pa_cons (pv 8) pa_nil)) pa_nil)))
      (pss_cons (ps_expr (pe_bm PySem.F.plainAttrs_list PySem.F.slot_list_extend PySem.F.type_list_extend mt_extend (pv 2) (pa_cons (pv 8) pa_nil)))
      (pss_one (ps_set (i := 3) sc_answers.nd rfl (Or.inl rfl) (pv 5)))))))))))
      (pss_one (ps_ret (pv 2))))))), ?_⟩
    intro x dx nx ndx ne
    refine ⟨x, dx, rfl, upd_same, fun H1 B => ⟨rfl, ?_⟩⟩
    obtain ⟨wl, bl, b1, b2, b3, b4, b5, b6⟩ := B
    have SH1 : Same H H1 := Same.made nx ndx fun b o e n => (b5 b o e n).1
    have S1 : ShoreAt A H1 ⟨x, wl, bl, [], [], []⟩ false (Kv346.begun 0) := ShoreAt.fresh (Nat.zero_le _) b1 b2 b3 b4
    refine ⟨Nat.zero_le _, fun ad had => ?_⟩
    refine ⟨fun m σ H' => ∃ (place fu : Nat) (cs : List (List (List Int))) (g : Sh) (f : Bool) (a : Abs) (out : List Int) (v4 v5 v6 v7 v8 : Option V), m = ns.length - place ∧ place ≤ ns.length ∧ σ = [some (.ref la), some (.ref x), some (.ref ad), some (.int (place : Nat)), v4, v5, v6, v7, v8] ∧
        Arg K H' la (ns.map V.int) ∧ ShoreAt A H' g f a ∧ g.sh = x ∧ H' ad = some (.lst (out.map V.int)) ∧ ad ∉ g.fp ∧ PyFlat.calls PyKv346.shape fu (ns.drop place) = some cs ∧ PyInside.calls PyKv346.bound cs = true ∧ out ++ rest (stS f a) cs = PyKv346.answers ns,
      ⟨ns.length, 0, ns.length, raw, ⟨x, wl, bl, [], [], []⟩, false, Kv346.begun 0, [], none, none, none, none, none, rfl, Nat.zero_le _, rfl, (hA.same SH1).same (Same.rfl.new had), S1.same (Same.rfl.new had), rfl, upd_same, S1.out had, hc0, hb0, ha0.symm⟩, ?_⟩
    rintro m σ H' ⟨place, fu, cs, g, f, a, out, v4, v5, v6, v7, v8, rfl, hpl, rfl, hA', S, rfl, hout, nad, hcs, hbs, heq⟩
    refine ⟨_, rfl, _, rfl, _, _, rfl, .inl hA'.sq, _, _, rfl, rfl, _, rfl, ifd (fun c => ⟨_, fun _ _ z => z, ?_⟩) (fun c => ?_)⟩
    · rw [List.length_map] at c
      obtain ⟨p, xs, rs, cl, cs', n, kk, fu', hT, hp, hsh, hxn, hrk, rfl, hxs, hpn, hbs', hnext⟩ := turn (show place < ns.length by omega) hcs hbs
      subst hxn
      rw [rest_cons hT] at heq
      have hle : out.length + (1 + ((Kv346Neutral.row (Kv346.act (stS f a) cl).2).length + (rest (Kv346.act (stS f a) cl).1 cs').length)) ≤ 10000000 := by
        have := hl0
        rw [← heq, List.length_append, List.length_cons, List.length_append] at this
        omega
      have eout : (out.map V.int ++ [.int (((Kv346Neutral.row (Kv346.act (stS f a) cl).2).map V.int).length : Nat)]) ++ (Kv346Neutral.row (Kv346.act (stS f a) cl).2).map V.int = (out ++ (((Kv346Neutral.row (Kv346.act (stS f a) cl).2).length : Int) :: Kv346Neutral.row (Kv346.act (stS f a) cl).2)).map V.int := by
        rw [List.length_map, List.map_append, List.map_cons, List.append_assoc]
        rfl
      -- number = calls[place]; behind = place + 1 + WHOLE_NUMBERS[number]
      refine ⟨_, rfl, _, rfl, la, _, _, V.int p, rfl, rfl, hA'.sq, at_int hp, ?_⟩
      refine ⟨_, rfl, _, _, rfl, rfl, _, rfl, A.w_WHOLE_NUMBERS, _, _, V.int (xs.length : Nat), rfl, rfl, T.t_WHOLE_NUMBERS.2.sq _, wn_at hT, _, _, rfl, rfl, ?_⟩
      -- told = calls[place + 1:behind]
      refine ⟨_, rfl, _, rfl, _, _, rfl, rfl, _, rfl, _, rfl, _, rfl, la, _, rfl, hA'.sq, fun tl htl => ?_⟩
      have ecut : cutV (ns.map V.int) (some (((place + 1 : Nat) : Nat) : Int)) (some ((place + 1 + xs.length : Nat) : Int)) = xs.map V.int := by rw [cut_at (by omega), hxs]
      have SHt : Same H' (upd H' tl (.lst (cutV (ns.map V.int) (some (((place + 1 : Nat) : Nat) : Int)) (some ((place + 1 + xs.length : Nat) : Int))))) := Same.rfl.new htl
      have hLt : upd H' tl (.lst (cutV (ns.map V.int) (some (((place + 1 : Nat) : Nat) : Int)) (some ((place + 1 + xs.length : Nat) : Int)))) tl = some (.lst (xs.map V.int)) := by rw [← ecut]; exact upd_same
      -- if has_a_row(number): ..
      refine ⟨_, rfl, p, rfl, fun H4 SH4 => ⟨_, rfl, ?_⟩⟩
      rw [row_in hT]
      have SHt4 : Same H' H4 := SHt.trans SH4
      have hL4 := SH4 _ _ hLt
      have hA4 := hA'.same SHt4
      refine ifd (fun c1 => ?_) (fun c1 => ?_)
      · rcases hnext with ⟨_, e, _⟩ | ⟨m, _, hm, hml, ers, hcs'⟩
        · rw [e] at c1
          cases c1
        · refine ⟨_, rfl, _, _, rfl, rfl, ?_⟩
          refine ⟨_, rfl, _, rfl, _, rfl, la, _, _, V.int (m : Nat), rfl, rfl, hA4.sq, at_int (i := place + 1 + xs.length) hm, _, _, rfl, rfl, ?_⟩
          refine ⟨_, rfl, .inl ⟨rfl, _, SqL.of hL4⟩, _, rfl, _, rfl, _, rfl, _, rfl, _, rfl, la, _, rfl, hA4.sq, fun rq hrq => ?_⟩
          have ecut2 : cutV (ns.map V.int) (some ((place + 1 + xs.length + 1 : Nat) : Int)) (some ((place + 1 + xs.length + 1 + m : Nat) : Int)) = ((ns.drop (place + 1 + xs.length + 1)).take m).map V.int := cut_at (by omega)
          have ntl : tl ≠ rq := ne_of_none hL4 hrq
          have nrl : rq ≠ tl := ntl.symm
          refine ⟨tl, _, _, rfl, rfl, (upd_ne ntl).trans hL4, (by rw [List.length_map]; exact line_lt (by omega)), ?_⟩
          have SH5 : Same H' (upd (upd H4 rq (.lst (cutV (ns.map V.int) (some ((place + 1 + xs.length + 1 : Nat) : Int)) (some ((place + 1 + xs.length + 1 + m : Nat) : Int))))) tl (.lst (xs.map V.int ++ [.ref rq]))) := (SHt4.new hrq).put htl
          have hTA : ToldAt (upd (upd H4 rq (.lst (cutV (ns.map V.int) (some ((place + 1 + xs.length + 1 : Nat) : Int)) (some ((place + 1 + xs.length + 1 + m : Nat) : Int))))) tl (.lst (xs.map V.int ++ [.ref rq]))) tl xs rs := by
            rw [ers]
            exact ⟨[.ref rq], upd_same, rq, rfl, by rw [upd_ne nrl, ecut2]; exact upd_same⟩
          refine ⟨_, rfl, _, rfl, _, rfl, g, f, a, p, xs, rs, cl, tl, rfl, hT, S.same SH5, hTA, fun H2 g2 f2 a2 q S2 est es2 kp hq nq hl => ?_⟩
          have hA2 : Arg K H2 la (ns.map V.int) := (hA'.same SH5).keeps (S.same SH5) kp
          obtain ⟨hout2, nad2⟩ := kp ad _ (SH5 _ _ hout) nad
          have nqa : q ≠ ad := (ne_of_none (SH5 _ _ hout) hq).symm
          refine ⟨_, rfl, .inl ⟨rfl, _, SqL.of hout2⟩, _, rfl, q, _, rfl, .inl (SqL.of hl), ad, _, _, rfl, rfl, hout2, (by rw [List.length_map]; exact Nat.lt_of_le_of_lt (show out.length ≤ 10000000 by omega) (by decide)), ?_⟩
          refine ⟨_, rfl, .inl ⟨rfl, _, SqL.of upd_same⟩, _, rfl, ad, q, _, _, rfl, rfl, upd_same, (upd_ne nqa).trans hl, (by rw [List.length_append, List.length_map, List.length_map]; exact Nat.le_trans (show _ ≤ 10000000 by simp; omega) (by decide)), ?_⟩
          have hA3 := (hA2.upd (o := .lst (out.map V.int ++ [.int (((Kv346Neutral.row (Kv346.act (stS f a) cl).2).map V.int).length : Nat)])) hout2).upd (o := .lst ((out.map V.int ++ [.int (((Kv346Neutral.row (Kv346.act (stS f a) cl).2).map V.int).length : Nat)]) ++ (Kv346Neutral.row (Kv346.act (stS f a) cl).2).map V.int)) upd_same
          have S3 := (S2.off (o := .lst (out.map V.int ++ [.int (((Kv346Neutral.row (Kv346.act (stS f a) cl).2).map V.int).length : Nat)])) hout2 nad2).off (o := .lst ((out.map V.int ++ [.int (((Kv346Neutral.row (Kv346.act (stS f a) cl).2).map V.int).length : Nat)]) ++ (Kv346Neutral.row (Kv346.act (stS f a) cl).2).map V.int)) upd_same nad2
          have heq' : (out ++ (((Kv346Neutral.row (Kv346.act (stS f a) cl).2).length : Int) :: Kv346Neutral.row (Kv346.act (stS f a) cl).2)) ++ rest (stS f2 a2) cs' = PyKv346.answers ns := by
            rw [est, ← heq, List.append_assoc]
            rfl
          exact ⟨_, rfl, ns.length - (place + 1 + xs.length + 1 + m), by omega, place + 1 + xs.length + 1 + m, fu', cs', g2, f2, a2, _, _, _, _, _, _, rfl, by omega, rfl, hA3, S3, es2, upd_same.trans (by rw [eout]), nad2, hcs', hbs', heq'⟩
      · rcases hnext with ⟨_, ers, hcs'⟩ | ⟨m, e, _, _, e2, _⟩
        · have SH5 := SHt4
          have hTA : ToldAt H4 tl xs rs := by
            rw [ers]
            exact ⟨[], by rw [List.append_nil]; exact hL4, rfl⟩
          refine ⟨_, rfl, _, rfl, _, rfl, g, f, a, p, xs, rs, cl, tl, rfl, hT, S.same SH5, hTA, fun H2 g2 f2 a2 q S2 est es2 kp hq nq hl => ?_⟩
          have hA2 : Arg K H2 la (ns.map V.int) := (hA'.same SH5).keeps (S.same SH5) kp
          obtain ⟨hout2, nad2⟩ := kp ad _ (SH5 _ _ hout) nad
          have nqa : q ≠ ad := (ne_of_none (SH5 _ _ hout) hq).symm
          refine ⟨_, rfl, .inl ⟨rfl, _, SqL.of hout2⟩, _, rfl, q, _, rfl, .inl (SqL.of hl), ad, _, _, rfl, rfl, hout2, (by rw [List.length_map]; exact Nat.lt_of_le_of_lt (show out.length ≤ 10000000 by omega) (by decide)), ?_⟩
          refine ⟨_, rfl, .inl ⟨rfl, _, SqL.of upd_same⟩, _, rfl, ad, q, _, _, rfl, rfl, upd_same, (upd_ne nqa).trans hl, (by rw [List.length_append, List.length_map, List.length_map]; exact Nat.le_trans (show _ ≤ 10000000 by simp; omega) (by decide)), ?_⟩
          have hA3 := (hA2.upd (o := .lst (out.map V.int ++ [.int (((Kv346Neutral.row (Kv346.act (stS f a) cl).2).map V.int).length : Nat)])) hout2).upd (o := .lst ((out.map V.int ++ [.int (((Kv346Neutral.row (Kv346.act (stS f a) cl).2).map V.int).length : Nat)]) ++ (Kv346Neutral.row (Kv346.act (stS f a) cl).2).map V.int)) upd_same
          have S3 := (S2.off (o := .lst (out.map V.int ++ [.int (((Kv346Neutral.row (Kv346.act (stS f a) cl).2).map V.int).length : Nat)])) hout2 nad2).off (o := .lst ((out.map V.int ++ [.int (((Kv346Neutral.row (Kv346.act (stS f a) cl).2).map V.int).length : Nat)]) ++ (Kv346Neutral.row (Kv346.act (stS f a) cl).2).map V.int)) upd_same nad2
          have heq' : (out ++ (((Kv346Neutral.row (Kv346.act (stS f a) cl).2).length : Int) :: Kv346Neutral.row (Kv346.act (stS f a) cl).2)) ++ rest (stS f2 a2) cs' = PyKv346.answers ns := by
            rw [est, ← heq, List.append_assoc]
            rfl
          exact ⟨_, rfl, ns.length - (place + 1 + xs.length), by omega, place + 1 + xs.length, fu', cs', g2, f2, a2, _, _, _, _, _, _, rfl, by omega, rfl, hA3, S3, es2, upd_same.trans (by rw [eout]), nad2, hcs', hbs', heq'⟩
        · exact absurd (hrk.trans e) c1
    · rw [List.length_map] at c
      rw [show place = ns.length by omega, List.drop_length] at hcs
      have e := calls_nil hcs
      subst e
      rw [rest_nil, List.append_nil] at heq
      exact ⟨_, rfl, k _ _ (by rw [← heq]; exact hout)⟩
end
end Dh


end
section
set_option Elab.async false
set_option linter.all false
set_option maxRecDepth 100000
set_option maxHeartbeats 2000000
def PySem.W.Fast.tw2423435543491154630 : Nat := 0
def PySem.W.Fast.tw2216464024107432025 : Nat := 0
def PySem.W.Fast.tw4456985805547866860 : Nat := 0
def PySem.W.Fast.tw2003960014393014909 : Nat := 0
def PySem.W.Fast.tw10183771248554291995 : Nat := 0
def PySem.W.Fast.tw12429629386249735261 : Nat := 0
def PySem.W.Fast.tw6529922208542250900 : Nat := 0
def PySem.W.Fast.tw11412779952229360133 : Nat := 0
def PySem.W.Fast.tw9214114306699528298 : Nat := 0
def PySem.W.Fast.tw8723273300065015570 : Nat := 0
def PySem.W.Fast.tw12923395705764419522 : Nat := 0
def PySem.W.Fast.tw4165362019777517036 : Nat := 0
def PySem.W.Fast.tw16217053542310505692 : Nat := 0
def PySem.W.Fast.tw6714620261513186632 : Nat := 0
def PySem.W.Fast.tw15361125823231907234 : Nat := 0
def PySem.W.Fast.tw325009845096369757 : Nat := 0
def PySem.W.Fast.tw12242969434169438148 : Nat := 0
def PySem.W.Fast.tw14221833734960724097 : Nat := 0
def PySem.W.Fast.tw14330799869751254364 : Nat := 0
def PySem.W.Fast.tw1991128094489085225 : Nat := 0
def PySem.W.Fast.tw15870067797181179985 : Nat := 0
def PySem.W.Fast.tw13516826510611052473 : Nat := 0
def PySem.W.Fast.tw14192687108079778310 : Nat := 0
def PySem.W.Fast.tw13394725228903626578 : Nat := 0
def PySem.W.Fast.tw5862790087301525940 : Nat := 0
def PySem.W.Fast.tw11531517282928240347 : Nat := 0
def PySem.W.Fast.tw12629224000154011261 : Nat := 0
def PySem.W.Fast.tw3554669835430769370 : Nat := 0
def PySem.W.Fast.tw11586809239270599788 : Nat := 0
def PySem.W.Fast.tw1743213252086053924 : Nat := 0
def PySem.W.Fast.tw9879210550110239386 : Nat := 0
def PySem.W.Fast.tw11592660534580046588 : Nat := 0
def PySem.W.Fast.tw17095993741036628246 : Nat := 0
def PySem.W.Fast.tw17443383631008283575 : Nat := 0
def PySem.W.Fast.tw8992610010044692229 : Nat := 0
def PySem.W.Fast.tw12667779550842669590 : Nat := 0
def PySem.W.Fast.tw388351228247060981 : Nat := 0
def PySem.W.Fast.tw1722313087644032504 : Nat := 0
def PySem.W.Fast.tw1965159117982700787 : Nat := 0
def PySem.W.Fast.tw12895280212798667117 : Nat := 0
def PySem.W.Fast.tw2030631223570328779 : Nat := 0
def PySem.W.Fast.tw2120792455051697979 : Nat := 0
def PySem.W.Fast.tw2371044227130825916 : Nat := 0
def PySem.W.Fast.tw3111730224792452877 : Nat := 0
def PySem.W.Fast.tw6986196777665187568 : Nat := 0
def PySem.W.Fast.tw15815167096645828390 : Nat := 0
def PySem.W.Fast.tw10501474419861721323 : Nat := 0
def PySem.W.Fast.tw61238067026644790 : Nat := 0
def PySem.W.Fast.tw11376063871611556066 : Nat := 0
def PySem.W.Fast.tw13579097891614862390 : Nat := 0
def PySem.W.Fast.tw15454759817419205298 : Nat := 0
def PySem.W.Fast.tw20858850170666784 : Nat := 0
def PySem.W.Fast.tw5788587945948989461 : Nat := 0
def PySem.W.Fast.tw16715115489923390159 : Nat := 0
def PySem.W.Fast.tw17068562508022260298 : Nat := 0
def PySem.W.Fast.tw6373548507475245693 : Nat := 0
def PySem.W.Fast.tw6748716948990012041 : Nat := 0
def PySem.W.Fast.tw18145676077753703945 : Nat := 0
def PySem.W.Fast.tw12978516386622833472 : Nat := 0
def PySem.W.Fast.tw4488424557677553099 : Nat := 0
def PySem.W.Fast.tw15282427274302213152 : Nat := 0
def PySem.W.Fast.tw5800932539651321896 : Nat := 0
def PySem.W.Fast.tw18413080442142995957 : Nat := 0
def PySem.W.Fast.tw14773832340420994303 : Nat := 0
def PySem.W.Fast.tw1018262877513113970 : Nat := 0
def PySem.W.Fast.tw5008514147581117386 : Nat := 0
def PySem.W.Fast.tw11550221170787608160 : Nat := 0
def PySem.W.Fast.tw13786609341073687758 : Nat := 0
def PySem.W.Fast.tw11855782037279002894 : Nat := 0
def PySem.W.Fast.tw4279221420344855966 : Nat := 0
def PySem.W.Fast.tw167389944534575610 : Nat := 0
def PySem.W.Fast.tw4714468043173609435 : Nat := 0
def PySem.W.Fast.tw2420981773214352639 : Nat := 0
def PySem.W.Fast.tw762655715860083085 : Nat := 0
def PySem.W.Fast.tw17813365367144947234 : Nat := 0
def PySem.W.Fast.tw2471014792616511088 : Nat := 0
def PySem.W.Fast.tw9106221467721329064 : Nat := 0
def PySem.W.Fast.tw18362068556221367379 : Nat := 0
def PySem.W.Fast.tw4639129231150220876 : Nat := 0
def PySem.W.Fast.tw11439909826001428257 : Nat := 0
def PySem.W.Fast.tw17708653370189389825 : Nat := 0
def PySem.W.Fast.tw1965817326497798725 : Nat := 0
def PySem.W.Fast.tw7078382801382254475 : Nat := 0
def PySem.W.Fast.tw394958488703282278 : Nat := 0
def PySem.W.Fast.tw4694248781314726934 : Nat := 0
def PySem.W.Fast.tw16482341075644526665 : Nat := 0
def PySem.W.Fast.tw14670847354966009919 : Nat := 0
def PySem.W.Fast.tw15090315876782488574 : Nat := 0
def PySem.W.Fast.tw16767572095054552783 : Nat := 0
def PySem.W.Fast.tw6032858400634350429 : Nat := 0
def PySem.W.Fast.tw12591546043901212276 : Nat := 0
def PySem.W.Fast.tw14758682732985988860 : Nat := 0
def PySem.W.Fast.tw8703567457979725786 : Nat := 0
def PySem.W.Fast.tw6728957764858430999 : Nat := 0
def PySem.W.Fast.tw1579885802765889632 : Nat := 0
def PySem.W.Fast.tw10464533676919473902 : Nat := 0
def PySem.W.Fast.tw6253763520939424917 : Nat := 0
def PySem.W.Fast.tw16637007633203232091 : Nat := 0
def PySem.W.Fast.tw8900899342964921336 : Nat := 0
def PySem.W.Fast.tw12277719689494381720 : Nat := 0
def PySem.W.Fast.tw952773847390553103 : Nat := 0
def PySem.W.Fast.tw304872147928660929 : Nat := 0
def PySem.W.Fast.tw12515052741752792320 : Nat := 0
def PySem.W.Fast.tw18446719529668160373 : Nat := 0
def PySem.W.Fast.tw15939130082567417702 : Nat := 0
def PySem.W.Fast.tw6628509618478674605 : Nat := 0
def PySem.W.Fast.tw15446460529670667741 : Nat := 0
def PySem.W.Fast.tw15747649656425001716 : Nat := 0
def PySem.W.Fast.tw13050920266397347409 : Nat := 0
def PySem.W.Fast.tw5353250628064483161 : Nat := 0
def PySem.W.Fast.tw15720260863616750310 : Nat := 0
def PySem.W.Fast.tw13671224308393710294 : Nat := 0
def PySem.W.Fast.tw360477259921683201 : Nat := 0
def PySem.W.Fast.tw5090282394723707910 : Nat := 0
def PySem.W.Fast.tw12284279455556988573 : Nat := 0
def PySem.W.Fast.tw217466323418524872 : Nat := 0
def PySem.W.Fast.tw2103912345019858704 : Nat := 0
def PySem.W.Fast.tw7120533011378546619 : Nat := 0
def PySem.W.Fast.tw9873030958185710242 : Nat := 0
def PySem.W.Fast.tw17979561959924118689 : Nat := 0
def PySem.W.Fast.tw14150355898545162196 : Nat := 0
def PySem.W.Fast.tw9658107837911726641 : Nat := 0
def PySem.W.Fast.tw380963614892145026 : Nat := 0
def PySem.W.Fast.tw6790197052280258319 : Nat := 0
def PySem.W.Fast.tw8976934500234509930 : Nat := 0
def PySem.W.Fast.tw17210315729518981446 : Nat := 0
def PySem.W.Fast.tw9765780847235136232 : Nat := 0
def PySem.W.Fast.tw1328191791234516886 : Nat := 0
def PySem.W.Fast.tw2126684515763722494 : Nat := 0
def PySem.W.Fast.tw14227394400777300656 : Nat := 0
def PySem.W.Fast.tw18288531077798033344 : Nat := 0
def PySem.W.Fast.tw6291813087539299892 : Nat := 0
def PySem.W.Fast.tw17742288788617163309 : Nat := 0
def PySem.W.Fast.tw15617905437964649133 : Nat := 0
def PySem.W.Fast.tw5042247580905932303 : Nat := 0
def PySem.W.Fast.tw16037892476782654663 : Nat := 0
def PySem.W.Fast.tw556584930683262762 : Nat := 0
def PySem.W.Fast.tw14173720793306908849 : Nat := 0
def PySem.W.Fast.tw12549275289267557709 : Nat := 0
def PySem.W.Fast.tw7192002935941431528 : Nat := 0
def PySem.W.Fast.tw506434756755873208 : Nat := 0
def PySem.W.Fast.tw15632894874118341947 : Nat := 0
def PySem.W.Fast.tw4992023483024856010 : Nat := 0
def PySem.W.Fast.tw17967928828512533913 : Nat := 0
def PySem.W.Fast.tw5440146553702286483 : Nat := 0
def PySem.W.Fast.tw13512610187766962160 : Nat := 0
def PySem.W.Fast.tw4984300756666391712 : Nat := 0
def PySem.W.Fast.tw3904911333990015366 : Nat := 0
def PySem.W.Fast.tw18175937687130667643 : Nat := 0
def PySem.W.Fast.tw8215819807119148775 : Nat := 0
def PySem.W.Fast.tw16460045351671409311 : Nat := 0
def PySem.W.Fast.tw11966525652183136977 : Nat := 0
def PySem.W.Fast.tw3311284566551281311 : Nat := 0
def PySem.W.Fast.tw13061042919246549848 : Nat := 0
def PySem.W.Fast.tw1324403249161728072 : Nat := 0
def PySem.W.Fast.tw7078333355398377654 : Nat := 0
def PySem.W.Fast.tw6676296067523655300 : Nat := 0
def PySem.W.Fast.tw13763231837967759593 : Nat := 0
def PySem.W.Fast.tw14494580774596585266 : Nat := 0
def PySem.W.Fast.tw4250772595538871620 : Nat := 0
def PySem.W.Fast.tw8321856787331462752 : Nat := 0
def PySem.W.Fast.tw17292326294502699289 : Nat := 0
def PySem.W.Fast.tw17499087640736214125 : Nat := 0
def PySem.W.Fast.tw5732752088217019872 : Nat := 0
def PySem.W.Fast.tw10211840232058572331 : Nat := 0
def PySem.W.Fast.tw11415451307434387424 : Nat := 0
def PySem.W.Fast.tw13535967388763406315 : Nat := 0
def PySem.W.Fast.tw12557905887543247615 : Nat := 0
def PySem.W.Fast.tw8822862590895160913 : Nat := 0
def PySem.W.Fast.tw9081955184049965673 : Nat := 0
def PySem.W.Fast.tw14647424053750700112 : Nat := 0
def PySem.W.Fast.tw15640185341905718426 : Nat := 0
def PySem.W.Fast.tw12778899013798983525 : Nat := 0
def PySem.W.Fast.tw452199125601347323 : Nat := 0
def PySem.W.Fast.tw14169017251261981880 : Nat := 0
def PySem.W.Fast.tw553442737585963333 : Nat := 0
def PySem.W.Fast.tw8571682668753351752 : Nat := 0
def PySem.W.Fast.tw12981705893796402874 : Nat := 0
def PySem.W.Fast.tw4623273876779416043 : Nat := 0
def PySem.W.Fast.tw10249051990950083034 : Nat := 0
def PySem.W.Fast.tw13249533339685522800 : Nat := 0
def PySem.W.Fast.tw5164959628389319612 : Nat := 0
def PySem.W.Fast.tw13872295325149651137 : Nat := 0
def PySem.W.Fast.tw14082602270756621093 : Nat := 0
def PySem.W.Fast.tw7243851746393059140 : Nat := 0
def PySem.W.Fast.tw2380092773335643718 : Nat := 0
def PySem.W.Fast.tw1236103852294838855 : Nat := 0
def PySem.W.Fast.tw2158720024018117427 : Nat := 0
def PySem.W.Fast.tw7395758070717088027 : Nat := 0
def PySem.W.Fast.tw15917920241952111633 : Nat := 0
def PySem.W.Fast.tw12214060004733062044 : Nat := 0
def PySem.W.Fast.tw14405682049790953339 : Nat := 0
def PySem.W.Fast.tw8044063607107861811 : Nat := 0
def PySem.W.Fast.tw2224533771090414852 : Nat := 0
def PySem.W.Fast.tw3367255243187416703 : Nat := 0
def PySem.W.Fast.tw1465336171435963302 : Nat := 0
def PySem.W.Fast.tw10274950807909816726 : Nat := 0
def PySem.W.Fast.tw11499696133437255121 : Nat := 0
def PySem.W.Fast.tw4453393017437547309 : Nat := 0
def PySem.W.Fast.tw3820658679327241579 : Nat := 0
def PySem.W.Fast.tw15963238722087201342 : Nat := 0
def PySem.W.Fast.tw4242203688926370632 : Nat := 0
def PySem.W.Fast.tw11564154708078995270 : Nat := 0
def PySem.W.Fast.tw4482317807975844427 : Nat := 0
def PySem.W.Fast.tw13993027913004909143 : Nat := 0
def PySem.W.Fast.tw6903580869639908893 : Nat := 0
def PySem.W.Fast.tw10162441168166067917 : Nat := 0
def PySem.W.Fast.tw11232691379141289871 : Nat := 0
def PySem.W.Fast.tw9565390544913051727 : Nat := 0
def PySem.W.Fast.tw2905790373329067164 : Nat := 0
def PySem.W.Fast.tw1783543153298167993 : Nat := 0
def PySem.W.Fast.tw9186152645500625055 : Nat := 0
def PySem.W.Fast.tw3478315397899310864 : Nat := 0
def PySem.W.Fast.tw12190774942797758095 : Nat := 0
def PySem.W.Fast.tw4257966141636678008 : Nat := 0
def PySem.W.Fast.tw949937271769115328 : Nat := 0
def PySem.W.Fast.tw7009091425707369233 : Nat := 0
def PySem.W.Fast.tw10656691009535173333 : Nat := 0
def PySem.W.Fast.tw16775757249942321731 : Nat := 0
def PySem.W.Fast.tw3477078043671455230 : Nat := 0
def PySem.W.Fast.tw2680806699220994047 : Nat := 0
def PySem.W.Fast.tw8182507304805162174 : Nat := 0
def PySem.W.Fast.tw17345454548901420502 : Nat := 0
def PySem.W.Fast.tw3175861521071705436 : Nat := 0
def PySem.W.Fast.tw6844385047706595190 : Nat := 0
def PySem.W.Fast.tw13797109092295154899 : Nat := 0
def PySem.W.Fast.tw8824540926599169254 : Nat := 0
def PySem.W.Fast.tw17106771041279043959 : Nat := 0
def PySem.W.Fast.tw591263416788904668 : Nat := 0
def PySem.W.Fast.tw2443091305318396471 : Nat := 0
def PySem.W.Fast.tw4959061734421329911 : Nat := 0
def PySem.W.Fast.tw6155638422671391971 : Nat := 0
def PySem.W.Fast.tw5427645405297391457 : Nat := 0
def PySem.W.Fast.tw16581992498900681741 : Nat := 0
def PySem.W.Fast.tw14186804569828337908 : Nat := 0
def PySem.W.Fast.tw7963489244031374909 : Nat := 0
def PySem.W.Fast.tw4271838727934805433 : Nat := 0
def PySem.W.Fast.tw8887570874603799982 : Nat := 0
def PySem.W.Fast.tw15498094022212571339 : Nat := 0
def PySem.W.Fast.tw590857563734943627 : Nat := 0
def PySem.W.Fast.tw3632341510101698126 : Nat := 0
def PySem.W.Fast.tw5943422398434016762 : Nat := 0
def PySem.W.Fast.tw9424995983122633997 : Nat := 0
def PySem.W.Fast.tw15584138457334225696 : Nat := 0
def PySem.W.Fast.tw1226087061403708887 : Nat := 0
def PySem.W.Fast.tw8554555510096265588 : Nat := 0
def PySem.W.Fast.tw1988089028612662224 : Nat := 0
def PySem.W.Fast.tw14974386153331430440 : Nat := 0
def PySem.W.Fast.tw9492033615208052620 : Nat := 0
def PySem.W.Fast.tw4464130148221610651 : Nat := 0
def PySem.W.Fast.tw1226184173874478649 : Nat := 0
def PySem.W.Fast.tw514115425569319056 : Nat := 0
def PySem.W.Fast.tw14987398827261483354 : Nat := 0
def PySem.W.Fast.tw10545776458120460661 : Nat := 0
def PySem.W.Fast.tw15534280033548799946 : Nat := 0
def PySem.W.Fast.tw8796774813644985616 : Nat := 0
def PySem.W.Fast.tw17621525778913163694 : Nat := 0
def PySem.W.Fast.tw14544608890726244228 : Nat := 0
def PySem.W.Fast.tw8073477606924193091 : Nat := 0
def PySem.W.Fast.tw4349933073883978320 : Nat := 0
def PySem.W.Fast.tw11853464723406900029 : Nat := 0
def PySem.W.Fast.tw4306254881603557495 : Nat := 0
def PySem.W.Fast.tw2522559268446761595 : Nat := 0
def PySem.W.Fast.tw17998851747443762220 : Nat := 0
def PySem.W.Fast.tw521678190985945009 : Nat := 0
def PySem.W.Fast.tw12340239396797198958 : Nat := 0
def PySem.W.Fast.tw8916038376109197707 : Nat := 0
def PySem.W.Fast.tw14962038266832089231 : Nat := 0
def PySem.W.Fast.tw4123888616021360176 : Nat := 0
def PySem.W.Fast.tw16521060808833853203 : Nat := 0
def PySem.W.Fast.tw485408059856481448 : Nat := 0
def PySem.W.Fast.tw633378131647709555 : Nat := 0
def PySem.W.Fast.tw12727154227209647674 : Nat := 0
def PySem.W.Fast.tw17555958425641778676 : Nat := 0
def PySem.W.Fast.tw1415715558668660967 : Nat := 0
def PySem.W.Fast.tw14675675957799742415 : Nat := 0
def PySem.W.Fast.tw9548745595902838819 : Nat := 0
def PySem.W.Fast.tw28547328114199191 : Nat := 0
def PySem.W.Fast.tw15218782991356894695 : Nat := 0
def PySem.W.Fast.tw13861100942619525487 : Nat := 0
def PySem.W.Fast.tw6772455472458585243 : Nat := 0
def PySem.W.Fast.tw18426894436301338332 : Nat := 0
def PySem.W.Fast.tw18224927478180815705 : Nat := 0
def PySem.W.Fast.tw505029384619944481 : Nat := 0
def PySem.W.Fast.tw8662945637151124203 : Nat := 0
def PySem.W.Fast.tw18291215923239354916 : Nat := 0
def PySem.W.Fast.tw9025083237227383703 : Nat := 0
def PySem.W.Fast.tw1535771543090317292 : Nat := 0
def PySem.W.Fast.tw5992092272058789946 : Nat := 0
def PySem.W.Fast.tw17626357821467062168 : Nat := 0
def PySem.W.Fast.tw8281698112764470432 : Nat := 0
def PySem.W.Fast.tw7071836652720245646 : Nat := 0
def PySem.W.Fast.tw6733779317236826950 : Nat := 0
def PySem.W.Fast.tw5248458208361646391 : Nat := 0
def PySem.W.Fast.tw4005321273327893718 : Nat := 0
def PySem.W.Fast.tw13162860834541724756 : Nat := 0
def PySem.W.Fast.tw5206526492255359720 : Nat := 0
def PySem.W.Fast.tw17339440778706816342 : Nat := 0
def PySem.W.Fast.tw7491595434289533289 : Nat := 0
def PySem.W.Fast.tw2554848318339211823 : Nat := 0
def PySem.W.Fast.tw1900097812556687330 : Nat := 0
def PySem.W.Fast.tw13395949228413706333 : Nat := 0
def PySem.W.Fast.tw14374522492544505657 : Nat := 0
def PySem.W.Fast.tw14918403224889400278 : Nat := 0
def PySem.W.Fast.tw12843303392037397742 : Nat := 0
def PySem.W.Fast.tw6411908884944478813 : Nat := 0
def PySem.W.Fast.tw17981301768534900581 : Nat := 0
def PySem.W.Fast.tw16291134627327659789 : Nat := 0
def PySem.W.Fast.tw7633997575974159528 : Nat := 0
def PySem.W.Fast.tw16566508944253398345 : Nat := 0
def PySem.W.Fast.tw12516926304988681345 : Nat := 0
def PySem.W.Fast.tw672761249799773758 : Nat := 0
def PySem.W.Fast.tw13300664964734745373 : Nat := 0
def PySem.W.Fast.tw16757997525346814331 : Nat := 0
def PySem.W.Fast.tw301951604649122782 : Nat := 0
def PySem.W.Fast.tw13496174666191751624 : Nat := 0
def PySem.W.Fast.tw18274624508727658112 : Nat := 0
def PySem.W.Fast.tw16557175584959245354 : Nat := 0
def PySem.W.Fast.tw4140586999116259055 : Nat := 0
def PySem.W.Fast.tw10611841154259405045 : Nat := 0
def PySem.W.Fast.tw7387784802140596990 : Nat := 0
def PySem.W.Fast.tw1595189794188756281 : Nat := 0
def PySem.W.Fast.tw12511225363248218181 : Nat := 0
def PySem.W.Fast.tw17184614974166884991 : Nat := 0
def PySem.W.Fast.tw15672570005225595689 : Nat := 0
def PySem.W.Fast.tw14200835508926393403 : Nat := 0
def PySem.W.Fast.tw293310974023169573 : Nat := 0
def PySem.W.Fast.tw10329347437670891037 : Nat := 0
def PySem.W.Fast.tw17292645347295928829 : Nat := 0
def PySem.W.Fast.tw12997744170496918567 : Nat := 0
def PySem.W.Fast.tw17658396160910753775 : Nat := 0
def PySem.W.Fast.tw17217741846892386917 : Nat := 0
def PySem.W.Fast.tw5802320280325156682 : Nat := 0
def PySem.W.Fast.tw14517778978769606416 : Nat := 0
def PySem.W.Fast.tw18336429078446020963 : Nat := 0
def PySem.W.Fast.tw7230732473049303663 : Nat := 0
def PySem.W.Fast.tw13393955227015293193 : Nat := 0
def PySem.W.Fast.tw1009296450831290390 : Nat := 0
def PySem.W.Fast.tw8824666875606128027 : Nat := 0
def PySem.W.Fast.tw5124577433554756091 : Nat := 0
def PySem.W.Fast.tw14155699653873346388 : Nat := 0
def PySem.W.Fast.tw7328584128963573433 : Nat := 0
def PySem.W.Fast.tw2669051278373342486 : Nat := 0
def PySem.W.Fast.tw12164534886690814293 : Nat := 0
def PySem.W.Fast.tw16159397578205679260 : Nat := 0
def PySem.W.Fast.tw14551540785421298569 : Nat := 0
def PySem.W.Fast.tw14622410346488067785 : Nat := 0
def PySem.W.Fast.tw13950895519599420835 : Nat := 0
def PySem.W.Fast.tw13106172520097032009 : Nat := 0
def PySem.W.Fast.tw3790715897797602371 : Nat := 0
def PySem.W.Fast.tw8810771306904540710 : Nat := 0
def PySem.W.Fast.tw4952938894399711487 : Nat := 0
def PySem.W.Fast.tw12250781385809956636 : Nat := 0
def PySem.W.Fast.tw15775889691561365385 : Nat := 0
def PySem.W.Fast.tw17125473796604300894 : Nat := 0
def PySem.W.Fast.tw6922281208353010361 : Nat := 0
def PySem.W.Fast.tw7587198367593148734 : Nat := 0
def PySem.W.Fast.tw3807557859042401095 : Nat := 0
def PySem.W.Fast.tw172040834727107233 : Nat := 0
def PySem.W.Fast.tw17861629675946883254 : Nat := 0
def PySem.W.Fast.tw1814817083968876982 : Nat := 0
def PySem.W.Fast.tw909440577956865768 : Nat := 0
def PySem.W.Fast.tw14593073674961115930 : Nat := 0
def PySem.W.Fast.tw5857707923621583048 : Nat := 0
def PySem.W.Fast.tw8952782598720200684 : Nat := 0
def PySem.W.Fast.tw6183665601961451705 : Nat := 0
def PySem.W.Fast.tw17913739252124256792 : Nat := 0
def PySem.W.Fast.tw15948339876478435703 : Nat := 0
def PySem.W.Fast.tw9482003208632286561 : Nat := 0
def PySem.W.Fast.tw14588895718906713429 : Nat := 0
def PySem.W.Fast.tw9632681855481181716 : Nat := 0
def PySem.W.Fast.tw6415130806042334466 : Nat := 0
def PySem.W.Fast.tw11873083778758030620 : Nat := 0
def PySem.W.Fast.tw5493961558000107940 : Nat := 0
def PySem.W.Fast.tw477403341918506992 : Nat := 0
def PySem.W.Fast.tw11572405569209295704 : Nat := 0
def PySem.W.Fast.tw8153167029825597794 : Nat := 0
def PySem.W.Fast.tw17180982413921712730 : Nat := 0
def PySem.W.Fast.tw680521552047100269 : Nat := 0
def PySem.W.Fast.tw8013879042806413498 : Nat := 0
def PySem.W.Fast.tw2160638377613376648 : Nat := 0
def PySem.W.Fast.tw4850934796416971601 : Nat := 0
def PySem.W.Fast.tw7433856822415597885 : Nat := 0
def PySem.W.Fast.tw12368963366556723469 : Nat := 0
def PySem.W.Fast.tw12827185733431828968 : Nat := 0
def PySem.W.Fast.tw17542234123363463983 : Nat := 0
def PySem.W.Fast.tw7365735052346778926 : Nat := 0
def PySem.W.Fast.tw15877354908995909207 : Nat := 0
def PySem.W.Fast.tw9594382114729058255 : Nat := 0
def PySem.W.Fast.tw3628866542432966743 : Nat := 0
def PySem.W.Fast.tw882336885953484530 : Nat := 0
def PySem.W.Fast.tw12104327898210559831 : Nat := 0
def PySem.W.Fast.tw13843420075444862265 : Nat := 0
def PySem.W.Fast.tw6271795540743424579 : Nat := 0
def PySem.W.Fast.tw6504502501091714225 : Nat := 0
def PySem.W.Fast.tw13519106078847658300 : Nat := 0
def PySem.W.Fast.tw13636341486430113480 : Nat := 0
def PySem.W.Fast.tw16177869325452011025 : Nat := 0
def PySem.W.Fast.tw13143582697282190851 : Nat := 0
def PySem.W.Fast.tw716917066376432218 : Nat := 0
def PySem.W.Fast.tw10967747699266608465 : Nat := 0
def PySem.W.Fast.tw3427421956220256065 : Nat := 0
def PySem.W.Fast.tw16495833686651413446 : Nat := 0
def PySem.W.Fast.tw10656024050699514642 : Nat := 0
def PySem.W.Fast.tw8172544829126829737 : Nat := 0
def PySem.W.Fast.tw17980598841121695553 : Nat := 0
def PySem.W.Fast.tw11167727171410580332 : Nat := 0
def PySem.W.Fast.tw13549389188281525052 : Nat := 0
def PySem.W.Fast.tw16511654941642164648 : Nat := 0
def PySem.W.Fast.tw7318983582923700774 : Nat := 0
def PySem.W.Fast.tw3760332126009406796 : Nat := 0
def PySem.W.Fast.tw4386682470336708132 : Nat := 0
def PySem.W.Fast.tw15429347729732406544 : Nat := 0
def PySem.W.Fast.tw17410730679197298480 : Nat := 0
def PySem.W.Fast.tw13457950414638942125 : Nat := 0
def PySem.W.Fast.tw5762175997723059177 : Nat := 0
def PySem.W.Fast.tw5938764906484503382 : Nat := 0
def PySem.W.Fast.tw15971403196046174463 : Nat := 0
def PySem.W.Fast.tw2145763948835366243 : Nat := 0
def PySem.W.Fast.tw9838433321392964936 : Nat := 0
def PySem.W.Fast.tw6790485003044188424 : Nat := 0
def PySem.W.Fast.tw5111347695995808475 : Nat := 0
def PySem.W.Fast.tw13218007393624116349 : Nat := 0
def PySem.W.Fast.tw11190042655793115715 : Nat := 0
def PySem.W.Fast.tw7212470951943318953 : Nat := 0
def PySem.W.Fast.tw12110966001169151835 : Nat := 0
def PySem.W.Fast.tw13822751406096914486 : Nat := 0
def PySem.W.Fast.tw15372423753896964380 : Nat := 0
def PySem.W.Fast.tw9547491367398229235 : Nat := 0
def PySem.W.Fast.tw3787771025228504246 : Nat := 0
def PySem.W.Fast.tw12381219150491837547 : Nat := 0
def PySem.W.Fast.tw13675314568057055219 : Nat := 0
def PySem.W.Fast.tw14602480064768045144 : Nat := 0
def PySem.W.Fast.tw2903389590654525801 : Nat := 0
def PySem.W.Fast.tw11764061624798067684 : Nat := 0
def PySem.W.Fast.tw13165758496356962533 : Nat := 0
def PySem.W.Fast.tw12133951469430249907 : Nat := 0
def PySem.W.Fast.tw2189228266043040821 : Nat := 0
def PySem.W.Fast.tw10112716515053588957 : Nat := 0
def PySem.W.Fast.tw8848654925520410877 : Nat := 0
def PySem.W.Fast.tw12868809577896359908 : Nat := 0
def PySem.W.Fast.tw14994180262705356161 : Nat := 0
def PySem.W.Fast.tw273676625686698184 : Nat := 0
def PySem.W.Fast.tw5968388056806178386 : Nat := 0
def PySem.W.Fast.tw12057323380371698191 : Nat := 0
def PySem.W.Fast.tw6686930318914490654 : Nat := 0
def PySem.W.Fast.tw6792199106428530424 : Nat := 0
def PySem.W.Fast.tw1987894736790464849 : Nat := 0
def PySem.W.Fast.tw6307010321401846909 : Nat := 0
def PySem.W.Fast.tw11035760783279454318 : Nat := 0
def PySem.W.Fast.tw14381848963166222414 : Nat := 0
def PySem.W.Fast.tw12949116903879364474 : Nat := 0
def PySem.W.Fast.tw6443540122099602634 : Nat := 0
def PySem.W.Fast.tw175348172528951866 : Nat := 0
def PySem.W.Fast.tw4826692003728811272 : Nat := 0
def PySem.W.Fast.tw18375731820985002293 : Nat := 0
def PySem.W.Fast.tw15421887054769497699 : Nat := 0
def PySem.W.Fast.tw777897323036079381 : Nat := 0
def PySem.W.Fast.tw8745405418887846238 : Nat := 0
def PySem.W.Fast.tw11096364348228303433 : Nat := 0
def PySem.W.Fast.tw10861523575191447308 : Nat := 0
def PySem.W.Fast.tw9259303994504549671 : Nat := 0
def PySem.W.Fast.tw17092217080815299458 : Nat := 0
def PySem.W.Fast.tw14650135333456793448 : Nat := 0
def PySem.W.Fast.tw2783072040838936134 : Nat := 0
def PySem.W.Fast.tw15801045506902983424 : Nat := 0
def PySem.W.Fast.tw1980247849863588635 : Nat := 0
def PySem.W.Fast.tw1850260840401115185 : Nat := 0
def PySem.W.Fast.tw16733352726383197202 : Nat := 0
def PySem.W.Fast.tw15260587856634723761 : Nat := 0
def PySem.W.Fast.tw3753689540725276819 : Nat := 0
def PySem.W.Fast.tw962151453308469181 : Nat := 0
def PySem.W.Fast.tw1658862744956990808 : Nat := 0
def PySem.W.Fast.tw15828910502608131830 : Nat := 0
def PySem.W.Fast.tw9393703838563504728 : Nat := 0
def PySem.W.Fast.tw9261186650224566563 : Nat := 0
def PySem.W.Fast.tw9784679378867245320 : Nat := 0
def PySem.W.Fast.tw6255494939576195289 : Nat := 0
def PySem.W.Fast.tw18214663107710488685 : Nat := 0
def PySem.W.Fast.tw4530713529124961407 : Nat := 0
def PySem.W.Fast.tw954529949877688067 : Nat := 0
def PySem.W.Fast.tw413559859668247480 : Nat := 0
open PySem PySem.W PyProof.Rows
set_option maxRecDepth 100000 in
set_option maxHeartbeats 0 in
theorem PySem.Challenge.cw_dryhours_s01_answers_holds : PySem.Challenge.rw_dryhours_s01_answers.Holds := by
  w_on; k_headS; (case hw => exact ⟨[.list [.int 22]], by decide +kernel, by decide +kernel⟩)
  k_fillS
  refine L2.walk_specK (r := PySem.Challenge.rw_dryhours_s01_answers) (k := 9) (CX := L2.CX0) (ps := ["calls"]) (sp := Dh.sp_answers) (by decide +kernel) rfl rfl ⟨rfl, by decide, by decide⟩ (fun w h Y => PySem.W.kIn_of Y) ?F ?S (fun _ _ _ _ z => z)
  case F =>
    intro w mg fa h Y KX G hmg
    have L_Wave : ∃ C fI : Addr, Dh.Cc (L2.KOf KX) mg "Wave" C fI ∧ (∃ d, Dh.Mh (L2.KOf KX) C "__init__" "Wave.__init__" Dh.s_Wave_init fI d ["self", "each", "high", "low"]) ∧ (∃ f d, Dh.Mh (L2.KOf KX) C "adds_at" "Wave.adds_at" Dh.s_Wave_adds_at f d ["self", "minute"]) ∧ (∃ f d, Dh.Mh (L2.KOf KX) C "adds_from" "Wave.adds_from" Dh.s_Wave_adds_from f d ["self", "minute", "how_many"]) ∧ PySem.W.findIn (L2.KOf KX) (.ref C) "each" = some none ∧ PySem.W.findIn (L2.KOf KX) (.ref C) "low" = some none ∧ PySem.W.findIn (L2.KOf KX) (.ref C) "added" = some none := by
      unfold L2.KOf; refine' ⟨_, _, Dh.cc_mk KX G ?aC ?ai ?pg ?hd ?po ?sa ?mk ?kc ?ii, Dh.mh_mk ?bi ?ij ?li ?ci ?ki (fun _ _ _ _ _ _ us hl => match us, hl with | [_, _, _, _], _ => rfl), ⟨_, Dh.mh_mk ?a0 ?i0 ?l0 ?c0 ?k0 (fun _ _ _ _ _ _ us hl => match us, hl with | [_, _], _ => rfl)⟩, ⟨_, Dh.mh_mk ?a1 ?i1 ?l1 ?c1 ?k1 (fun _ _ _ _ _ _ us hl => match us, hl with | [_, _, _], _ => rfl)⟩, ?n_each, ?n_low, ?n_added⟩
      (case aC => k_is); (case ai => k_is); (case pg => k_is); (case hd => k_is); (case po => k_is); (case sa => k_is); (case mk => k_is); (case kc => k_is); (case ii => k_is); (case bi => k_is); (case ij => k_is); (case li => k_is); (case ci => k_is); (case ki => k_is); (case a0 => k_is); (case i0 => k_is); (case l0 => k_is); (case c0 => k_is); (case k0 => k_is); (case a1 => k_is); (case i1 => k_is); (case l1 => k_is); (case c1 => k_is); (case k1 => k_is); (case n_each => k_is); (case n_low => k_is); (case n_added => k_is)
    have L_Bed : ∃ C fI : Addr, Dh.Cc (L2.KOf KX) mg "Bed" C fI ∧ (∃ d, Dh.Mh (L2.KOf KX) C "__init__" "Bed.__init__" Dh.s_Bed_init fI d ["self", "height"]) ∧ PySem.W.findIn (L2.KOf KX) (.ref C) "height" = some none ∧ PySem.W.findIn (L2.KOf KX) (.ref C) "worked" = some none := by
      unfold L2.KOf; refine' ⟨_, _, Dh.cc_mk KX G ?aC ?ai ?pg ?hd ?po ?sa ?mk ?kc ?ii, Dh.mh_mk ?bi ?ij ?li ?ci ?ki (fun _ _ _ _ _ _ us hl => match us, hl with | [_, _], _ => rfl), ?n_height, ?n_worked⟩
      (case aC => k_is); (case ai => k_is); (case pg => k_is); (case hd => k_is); (case po => k_is); (case sa => k_is); (case mk => k_is); (case kc => k_is); (case ii => k_is); (case bi => k_is); (case ij => k_is); (case li => k_is); (case ci => k_is); (case ki => k_is); (case n_height => k_is); (case n_worked => k_is)
    have L_Shore : ∃ C fI : Addr, Dh.Cc (L2.KOf KX) mg "Shore" C fI ∧ (∃ d, Dh.Mh (L2.KOf KX) C "__init__" "Shore.__init__" Dh.s_Shore_init fI d ["self"]) ∧ (∃ f d, Dh.Mh (L2.KOf KX) C "begin_afresh" "Shore.begin_afresh" Dh.s_Shore_begin_afresh f d ["self", "base"]) ∧ (∃ f d, Dh.Mh (L2.KOf KX) C "has_bed" "Shore.has_bed" Dh.s_Shore_has_bed f d ["self", "bed"]) ∧ (∃ f d, Dh.Mh (L2.KOf KX) C "has_beds" "Shore.has_beds" Dh.s_Shore_has_beds f d ["self", "beds"]) ∧ (∃ f d, Dh.Mh (L2.KOf KX) C "water_at" "Shore.water_at" Dh.s_Shore_water_at f d ["self", "minute"]) ∧ (∃ f d, Dh.Mh (L2.KOf KX) C "waters_from" "Shore.waters_from" Dh.s_Shore_waters_from f d ["self", "minute", "how_many"]) ∧ (∃ f d, Dh.Mh (L2.KOf KX) C "is_dry" "Shore.is_dry" Dh.s_Shore_is_dry f d ["self", "bed", "minute"]) ∧ PySem.W.findIn (L2.KOf KX) (.ref C) "begun" = some none ∧ PySem.W.findIn (L2.KOf KX) (.ref C) "base" = some none ∧ PySem.W.findIn (L2.KOf KX) (.ref C) "minute" = some none ∧ PySem.W.findIn (L2.KOf KX) (.ref C) "waves" = some none ∧ PySem.W.findIn (L2.KOf KX) (.ref C) "beds" = some none := by
      unfold L2.KOf; refine' ⟨_, _, Dh.cc_mk KX G ?aC ?ai ?pg ?hd ?po ?sa ?mk ?kc ?ii, Dh.mh_mk ?bi ?ij ?li ?ci ?ki (fun _ _ _ _ _ _ us hl => match us, hl with | [_], _ => rfl), ⟨_, Dh.mh_mk ?a0 ?i0 ?l0 ?c0 ?k0 (fun _ _ _ _ _ _ us hl => match us, hl with | [_, _], _ => rfl)⟩, ⟨_, Dh.mh_mk ?a1 ?i1 ?l1 ?c1 ?k1 (fun _ _ _ _ _ _ us hl => match us, hl with | [_, _], _ => rfl)⟩, ⟨_, Dh.mh_mk ?a2 ?i2 ?l2 ?c2 ?k2 (fun _ _ _ _ _ _ us hl => match us, hl with | [_, _], _ => rfl)⟩, ⟨_, Dh.mh_mk ?a3 ?i3 ?l3 ?c3 ?k3 (fun _ _ _ _ _ _ us hl => match us, hl with | [_, _], _ => rfl)⟩, ⟨_, Dh.mh_mk ?a4 ?i4 ?l4 ?c4 ?k4 (fun _ _ _ _ _ _ us hl => match us, hl with | [_, _, _], _ => rfl)⟩, ⟨_, Dh.mh_mk ?a5 ?i5 ?l5 ?c5 ?k5 (fun _ _ _ _ _ _ us hl => match us, hl with | [_, _, _], _ => rfl)⟩, ?n_begun, ?n_base, ?n_minute, ?n_waves, ?n_beds⟩
      (case aC => k_is); (case ai => k_is); (case pg => k_is); (case hd => k_is); (case po => k_is); (case sa => k_is); (case mk => k_is); (case kc => k_is); (case ii => k_is); (case bi => k_is); (case ij => k_is); (case li => k_is); (case ci => k_is); (case ki => k_is); (case a0 => k_is); (case i0 => k_is); (case l0 => k_is); (case c0 => k_is); (case k0 => k_is); (case a1 => k_is); (case i1 => k_is); (case l1 => k_is); (case c1 => k_is); (case k1 => k_is); (case a2 => k_is); (case i2 => k_is); (case l2 => k_is); (case c2 => k_is); (case k2 => k_is); (case a3 => k_is); (case i3 => k_is); (case l3 => k_is); (case c3 => k_is); (case k3 => k_is); (case a4 => k_is); (case i4 => k_is); (case l4 => k_is); (case c4 => k_is); (case k4 => k_is); (case a5 => k_is); (case i5 => k_is); (case l5 => k_is); (case c5 => k_is); (case k5 => k_is); (case n_begun => k_is); (case n_base => k_is); (case n_minute => k_is); (case n_waves => k_is); (case n_beds => k_is)
    have L_Visit : ∃ C fI : Addr, Dh.Cc (L2.KOf KX) mg "Visit" C fI ∧ (∃ d, Dh.Mh (L2.KOf KX) C "__init__" "Visit.__init__" Dh.s_Visit_init fI d ["self", "bed", "how_many", "begins"]) ∧ PySem.W.findIn (L2.KOf KX) (.ref C) "bed" = some none ∧ PySem.W.findIn (L2.KOf KX) (.ref C) "how_many" = some none ∧ PySem.W.findIn (L2.KOf KX) (.ref C) "begins" = some none := by
      unfold L2.KOf; refine' ⟨_, _, Dh.cc_mk KX G ?aC ?ai ?pg ?hd ?po ?sa ?mk ?kc ?ii, Dh.mh_mk ?bi ?ij ?li ?ci ?ki (fun _ _ _ _ _ _ us hl => match us, hl with | [_, _, _, _], _ => rfl), ?n_bed, ?n_how_many, ?n_begins⟩
      (case aC => k_is); (case ai => k_is); (case pg => k_is); (case hd => k_is); (case po => k_is); (case sa => k_is); (case mk => k_is); (case kc => k_is); (case ii => k_is); (case bi => k_is); (case ij => k_is); (case li => k_is); (case ci => k_is); (case ki => k_is); (case n_bed => k_is); (case n_how_many => k_is); (case n_begins => k_is)
    have D_is_minute : ∃ f d, Dh.Df (L2.KOf KX) mg "is_minute" Dh.s_is_minute f d ["minute"] := by
      unfold L2.KOf; refine' ⟨_, Dh.df_mk KX G ?a ?l ?c ?k (fun _ _ _ _ _ _ us hl => match us, hl with | [_], _ => rfl)⟩; (case a => k_is); (case l => k_is); (case c => k_is); (case k => k_is)
    have D_is_how_many : ∃ f d, Dh.Df (L2.KOf KX) mg "is_how_many" Dh.s_is_how_many f d ["minutes"] := by
      unfold L2.KOf; refine' ⟨_, Dh.df_mk KX G ?a ?l ?c ?k (fun _ _ _ _ _ _ us hl => match us, hl with | [_], _ => rfl)⟩; (case a => k_is); (case l => k_is); (case c => k_is); (case k => k_is)
    have D_is_few : ∃ f d, Dh.Df (L2.KOf KX) mg "is_few" Dh.s_is_few f d ["minutes"] := by
      unfold L2.KOf; refine' ⟨_, Dh.df_mk KX G ?a ?l ?c ?k (fun _ _ _ _ _ _ us hl => match us, hl with | [_], _ => rfl)⟩; (case a => k_is); (case l => k_is); (case c => k_is); (case k => k_is)
    have D_is_at_a_bed : ∃ f d, Dh.Df (L2.KOf KX) mg "is_at_a_bed" Dh.s_is_at_a_bed f d ["minutes"] := by
      unfold L2.KOf; refine' ⟨_, Dh.df_mk KX G ?a ?l ?c ?k (fun _ _ _ _ _ _ us hl => match us, hl with | [_], _ => rfl)⟩; (case a => k_is); (case l => k_is); (case c => k_is); (case k => k_is)
    have D_are_different : ∃ f d, Dh.Df (L2.KOf KX) mg "are_different" Dh.s_are_different f d ["beds"] := by
      unfold L2.KOf; refine' ⟨_, Dh.df_mk KX G ?a ?l ?c ?k (fun _ _ _ _ _ _ us hl => match us, hl with | [_], _ => rfl)⟩; (case a => k_is); (case l => k_is); (case c => k_is); (case k => k_is)
    have D_is_bed_height : ∃ f d, Dh.Df (L2.KOf KX) mg "is_bed_height" Dh.s_is_bed_height f d ["height"] := by
      unfold L2.KOf; refine' ⟨_, Dh.df_mk KX G ?a ?l ?c ?k (fun _ _ _ _ _ _ us hl => match us, hl with | [_], _ => rfl)⟩; (case a => k_is); (case l => k_is); (case c => k_is); (case k => k_is)
    have D_is_wave : ∃ f d, Dh.Df (L2.KOf KX) mg "is_wave" Dh.s_is_wave f d ["each", "high", "low"] := by
      unfold L2.KOf; refine' ⟨_, Dh.df_mk KX G ?a ?l ?c ?k (fun _ _ _ _ _ _ us hl => match us, hl with | [_, _, _], _ => rfl)⟩; (case a => k_is); (case l => k_is); (case c => k_is); (case k => k_is)
    have D_dry_minutes_from : ∃ f d, Dh.Df (L2.KOf KX) mg "dry_minutes_from" Dh.s_dry_minutes_from f d ["shore", "bed", "minute", "most"] := by
      unfold L2.KOf; refine' ⟨_, Dh.df_mk KX G ?a ?l ?c ?k (fun _ _ _ _ _ _ us hl => match us, hl with | [_, _, _, _], _ => rfl)⟩; (case a => k_is); (case l => k_is); (case c => k_is); (case k => k_is)
    have D_first_minute : ∃ f d, Dh.Df (L2.KOf KX) mg "first_minute" Dh.s_first_minute f d ["shore", "bed", "minute", "dry"] := by
      unfold L2.KOf; refine' ⟨_, Dh.df_mk KX G ?a ?l ?c ?k (fun _ _ _ _ _ _ us hl => match us, hl with | [_, _, _, _], _ => rfl)⟩; (case a => k_is); (case l => k_is); (case c => k_is); (case k => k_is)
    have D_first_fit : ∃ f d, Dh.Df (L2.KOf KX) mg "first_fit" Dh.s_first_fit f d ["shore", "bed", "minute", "how_many"] := by
      unfold L2.KOf; refine' ⟨_, Dh.df_mk KX G ?a ?l ?c ?k (fun _ _ _ _ _ _ us hl => match us, hl with | [_, _, _, _], _ => rfl)⟩; (case a => k_is); (case l => k_is); (case c => k_is); (case k => k_is)
    have D_first_fits : ∃ f d, Dh.Df (L2.KOf KX) mg "first_fits" Dh.s_first_fits f d ["waters", "height", "how_many"] := by
      unfold L2.KOf; refine' ⟨_, Dh.df_mk KX G ?a ?l ?c ?k (fun _ _ _ _ _ _ us hl => match us, hl with | [_, _, _], _ => rfl)⟩; (case a => k_is); (case l => k_is); (case c => k_is); (case k => k_is)
    have D_dry_stretches : ∃ f d, Dh.Df (L2.KOf KX) mg "dry_stretches" Dh.s_dry_stretches f d ["shore", "bed", "minute", "how_many"] := by
      unfold L2.KOf; refine' ⟨_, Dh.df_mk KX G ?a ?l ?c ?k (fun _ _ _ _ _ _ us hl => match us, hl with | [_, _, _, _], _ => rfl)⟩; (case a => k_is); (case l => k_is); (case c => k_is); (case k => k_is)
    have D_minutes_all_dry : ∃ f d, Dh.Df (L2.KOf KX) mg "minutes_all_dry" Dh.s_minutes_all_dry f d ["shore", "beds", "minute", "how_many"] := by
      unfold L2.KOf; refine' ⟨_, Dh.df_mk KX G ?a ?l ?c ?k (fun _ _ _ _ _ _ us hl => match us, hl with | [_, _, _, _], _ => rfl)⟩; (case a => k_is); (case l => k_is); (case c => k_is); (case k => k_is)
    have D_begin : ∃ f d, Dh.Df (L2.KOf KX) mg "begin" Dh.s_begin f d ["shore", "base"] := by
      unfold L2.KOf; refine' ⟨_, Dh.df_mk KX G ?a ?l ?c ?k (fun _ _ _ _ _ _ us hl => match us, hl with | [_, _], _ => rfl)⟩; (case a => k_is); (case l => k_is); (case c => k_is); (case k => k_is)
    have D_add_wave : ∃ f d, Dh.Df (L2.KOf KX) mg "add_wave" Dh.s_add_wave f d ["shore", "each", "high", "low"] := by
      unfold L2.KOf; refine' ⟨_, Dh.df_mk KX G ?a ?l ?c ?k (fun _ _ _ _ _ _ us hl => match us, hl with | [_, _, _, _], _ => rfl)⟩; (case a => k_is); (case l => k_is); (case c => k_is); (case k => k_is)
    have D_add_bed : ∃ f d, Dh.Df (L2.KOf KX) mg "add_bed" Dh.s_add_bed f d ["shore", "height"] := by
      unfold L2.KOf; refine' ⟨_, Dh.df_mk KX G ?a ?l ?c ?k (fun _ _ _ _ _ _ us hl => match us, hl with | [_, _], _ => rfl)⟩; (case a => k_is); (case l => k_is); (case c => k_is); (case k => k_is)
    have D_raise_bed : ∃ f d, Dh.Df (L2.KOf KX) mg "raise_bed" Dh.s_raise_bed f d ["shore", "bed", "height"] := by
      unfold L2.KOf; refine' ⟨_, Dh.df_mk KX G ?a ?l ?c ?k (fun _ _ _ _ _ _ us hl => match us, hl with | [_, _, _], _ => rfl)⟩; (case a => k_is); (case l => k_is); (case c => k_is); (case k => k_is)
    have D_pass_minutes : ∃ f d, Dh.Df (L2.KOf KX) mg "pass_minutes" Dh.s_pass_minutes f d ["shore", "how_many"] := by
      unfold L2.KOf; refine' ⟨_, Dh.df_mk KX G ?a ?l ?c ?k (fun _ _ _ _ _ _ us hl => match us, hl with | [_, _], _ => rfl)⟩; (case a => k_is); (case l => k_is); (case c => k_is); (case k => k_is)
    have D_work_at_bed : ∃ f d, Dh.Df (L2.KOf KX) mg "work_at_bed" Dh.s_work_at_bed f d ["shore", "bed", "how_many"] := by
      unfold L2.KOf; refine' ⟨_, Dh.df_mk KX G ?a ?l ?c ?k (fun _ _ _ _ _ _ us hl => match us, hl with | [_, _, _], _ => rfl)⟩; (case a => k_is); (case l => k_is); (case c => k_is); (case k => k_is)
    have D_tell_height : ∃ f d, Dh.Df (L2.KOf KX) mg "tell_height" Dh.s_tell_height f d ["shore", "minute"] := by
      unfold L2.KOf; refine' ⟨_, Dh.df_mk KX G ?a ?l ?c ?k (fun _ _ _ _ _ _ us hl => match us, hl with | [_, _], _ => rfl)⟩; (case a => k_is); (case l => k_is); (case c => k_is); (case k => k_is)
    have D_tell_dry : ∃ f d, Dh.Df (L2.KOf KX) mg "tell_dry" Dh.s_tell_dry f d ["shore", "bed", "minute"] := by
      unfold L2.KOf; refine' ⟨_, Dh.df_mk KX G ?a ?l ?c ?k (fun _ _ _ _ _ _ us hl => match us, hl with | [_, _, _], _ => rfl)⟩; (case a => k_is); (case l => k_is); (case c => k_is); (case k => k_is)
    have D_tell_next : ∃ f d, Dh.Df (L2.KOf KX) mg "tell_next" Dh.s_tell_next f d ["shore", "bed", "minute"] := by
      unfold L2.KOf; refine' ⟨_, Dh.df_mk KX G ?a ?l ?c ?k (fun _ _ _ _ _ _ us hl => match us, hl with | [_, _, _], _ => rfl)⟩; (case a => k_is); (case l => k_is); (case c => k_is); (case k => k_is)
    have D_tell_wet : ∃ f d, Dh.Df (L2.KOf KX) mg "tell_wet" Dh.s_tell_wet f d ["shore", "bed", "minute"] := by
      unfold L2.KOf; refine' ⟨_, Dh.df_mk KX G ?a ?l ?c ?k (fun _ _ _ _ _ _ us hl => match us, hl with | [_, _, _], _ => rfl)⟩; (case a => k_is); (case l => k_is); (case c => k_is); (case k => k_is)
    have D_tell_lasts : ∃ f d, Dh.Df (L2.KOf KX) mg "tell_lasts" Dh.s_tell_lasts f d ["shore", "bed", "minute"] := by
      unfold L2.KOf; refine' ⟨_, Dh.df_mk KX G ?a ?l ?c ?k (fun _ _ _ _ _ _ us hl => match us, hl with | [_, _, _], _ => rfl)⟩; (case a => k_is); (case l => k_is); (case c => k_is); (case k => k_is)
    have D_tell_fits : ∃ f d, Dh.Df (L2.KOf KX) mg "tell_fits" Dh.s_tell_fits f d ["shore", "bed", "minute", "how_many"] := by
      unfold L2.KOf; refine' ⟨_, Dh.df_mk KX G ?a ?l ?c ?k (fun _ _ _ _ _ _ us hl => match us, hl with | [_, _, _, _], _ => rfl)⟩; (case a => k_is); (case l => k_is); (case c => k_is); (case k => k_is)
    have D_tell_all : ∃ f d, Dh.Df (L2.KOf KX) mg "tell_all" Dh.s_tell_all f d ["shore", "minute"] := by
      unfold L2.KOf; refine' ⟨_, Dh.df_mk KX G ?a ?l ?c ?k (fun _ _ _ _ _ _ us hl => match us, hl with | [_, _], _ => rfl)⟩; (case a => k_is); (case l => k_is); (case c => k_is); (case k => k_is)
    have D_tell_works : ∃ f d, Dh.Df (L2.KOf KX) mg "tell_works" Dh.s_tell_works f d ["shore"] := by
      unfold L2.KOf; refine' ⟨_, Dh.df_mk KX G ?a ?l ?c ?k (fun _ _ _ _ _ _ us hl => match us, hl with | [_], _ => rfl)⟩; (case a => k_is); (case l => k_is); (case c => k_is); (case k => k_is)
    have D_tell_look : ∃ f d, Dh.Df (L2.KOf KX) mg "tell_look" Dh.s_tell_look f d ["shore", "bed"] := by
      unfold L2.KOf; refine' ⟨_, Dh.df_mk KX G ?a ?l ?c ?k (fun _ _ _ _ _ _ us hl => match us, hl with | [_, _], _ => rfl)⟩; (case a => k_is); (case l => k_is); (case c => k_is); (case k => k_is)
    have D_tell_state : ∃ f d, Dh.Df (L2.KOf KX) mg "tell_state" Dh.s_tell_state f d ["shore"] := by
      unfold L2.KOf; refine' ⟨_, Dh.df_mk KX G ?a ?l ?c ?k (fun _ _ _ _ _ _ us hl => match us, hl with | [_], _ => rfl)⟩; (case a => k_is); (case l => k_is); (case c => k_is); (case k => k_is)
    have D_one_if_dry : ∃ f d, Dh.Df (L2.KOf KX) mg "one_if_dry" Dh.s_one_if_dry f d ["shore", "bed", "minute"] := by
      unfold L2.KOf; refine' ⟨_, Dh.df_mk KX G ?a ?l ?c ?k (fun _ _ _ _ _ _ us hl => match us, hl with | [_, _, _], _ => rfl)⟩; (case a => k_is); (case l => k_is); (case c => k_is); (case k => k_is)
    have D_are_minutes : ∃ f d, Dh.Df (L2.KOf KX) mg "are_minutes" Dh.s_are_minutes f d ["minute", "how_many"] := by
      unfold L2.KOf; refine' ⟨_, Dh.df_mk KX G ?a ?l ?c ?k (fun _ _ _ _ _ _ us hl => match us, hl with | [_, _], _ => rfl)⟩; (case a => k_is); (case l => k_is); (case c => k_is); (case k => k_is)
    have D_tell_longest : ∃ f d, Dh.Df (L2.KOf KX) mg "tell_longest" Dh.s_tell_longest f d ["shore", "bed", "minute", "how_many"] := by
      unfold L2.KOf; refine' ⟨_, Dh.df_mk KX G ?a ?l ?c ?k (fun _ _ _ _ _ _ us hl => match us, hl with | [_, _, _, _], _ => rfl)⟩; (case a => k_is); (case l => k_is); (case c => k_is); (case k => k_is)
    have D_tell_many : ∃ f d, Dh.Df (L2.KOf KX) mg "tell_many" Dh.s_tell_many f d ["shore", "bed", "minute", "how_many"] := by
      unfold L2.KOf; refine' ⟨_, Dh.df_mk KX G ?a ?l ?c ?k (fun _ _ _ _ _ _ us hl => match us, hl with | [_, _, _, _], _ => rfl)⟩; (case a => k_is); (case l => k_is); (case c => k_is); (case k => k_is)
    have D_tell_stretches : ∃ f d, Dh.Df (L2.KOf KX) mg "tell_stretches" Dh.s_tell_stretches f d ["shore", "bed", "minute", "how_many"] := by
      unfold L2.KOf; refine' ⟨_, Dh.df_mk KX G ?a ?l ?c ?k (fun _ _ _ _ _ _ us hl => match us, hl with | [_, _, _, _], _ => rfl)⟩; (case a => k_is); (case l => k_is); (case c => k_is); (case k => k_is)
    have D_tell_together : ∃ f d, Dh.Df (L2.KOf KX) mg "tell_together" Dh.s_tell_together f d ["shore", "minute", "how_many", "beds"] := by
      unfold L2.KOf; refine' ⟨_, Dh.df_mk KX G ?a ?l ?c ?k (fun _ _ _ _ _ _ us hl => match us, hl with | [_, _, _, _], _ => rfl)⟩; (case a => k_is); (case l => k_is); (case c => k_is); (case k => k_is)
    have D_tell_highest : ∃ f d, Dh.Df (L2.KOf KX) mg "tell_highest" Dh.s_tell_highest f d ["shore", "minute", "how_many"] := by
      unfold L2.KOf; refine' ⟨_, Dh.df_mk KX G ?a ?l ?c ?k (fun _ _ _ _ _ _ us hl => match us, hl with | [_, _, _], _ => rfl)⟩; (case a => k_is); (case l => k_is); (case c => k_is); (case k => k_is)
    have D_tell_lowest : ∃ f d, Dh.Df (L2.KOf KX) mg "tell_lowest" Dh.s_tell_lowest f d ["shore", "minute", "how_many"] := by
      unfold L2.KOf; refine' ⟨_, Dh.df_mk KX G ?a ?l ?c ?k (fun _ _ _ _ _ _ us hl => match us, hl with | [_, _, _], _ => rfl)⟩; (case a => k_is); (case l => k_is); (case c => k_is); (case k => k_is)
    have D_tell_least : ∃ f d, Dh.Df (L2.KOf KX) mg "tell_least" Dh.s_tell_least f d ["shore", "minute", "how_many"] := by
      unfold L2.KOf; refine' ⟨_, Dh.df_mk KX G ?a ?l ?c ?k (fun _ _ _ _ _ _ us hl => match us, hl with | [_, _, _], _ => rfl)⟩; (case a => k_is); (case l => k_is); (case c => k_is); (case k => k_is)
    have D_tell_through : ∃ f d, Dh.Df (L2.KOf KX) mg "tell_through" Dh.s_tell_through f d ["shore", "minute", "pairs"] := by
      unfold L2.KOf; refine' ⟨_, Dh.df_mk KX G ?a ?l ?c ?k (fun _ _ _ _ _ _ us hl => match us, hl with | [_, _, _], _ => rfl)⟩; (case a => k_is); (case l => k_is); (case c => k_is); (case k => k_is)
    have D_tell_soonest : ∃ f d, Dh.Df (L2.KOf KX) mg "tell_soonest" Dh.s_tell_soonest f d ["shore", "minute", "pairs"] := by
      unfold L2.KOf; refine' ⟨_, Dh.df_mk KX G ?a ?l ?c ?k (fun _ _ _ _ _ _ us hl => match us, hl with | [_, _, _], _ => rfl)⟩; (case a => k_is); (case l => k_is); (case c => k_is); (case k => k_is)
    have D_round_refused : ∃ f d, Dh.Df (L2.KOf KX) mg "round_refused" Dh.s_round_refused f d ["shore", "minute", "pairs"] := by
      unfold L2.KOf; refine' ⟨_, Dh.df_mk KX G ?a ?l ?c ?k (fun _ _ _ _ _ _ us hl => match us, hl with | [_, _, _], _ => rfl)⟩; (case a => k_is); (case l => k_is); (case c => k_is); (case k => k_is)
    have D_is_a_round : ∃ f d, Dh.Df (L2.KOf KX) mg "is_a_round" Dh.s_is_a_round f d ["pairs"] := by
      unfold L2.KOf; refine' ⟨_, Dh.df_mk KX G ?a ?l ?c ?k (fun _ _ _ _ _ _ us hl => match us, hl with | [_], _ => rfl)⟩; (case a => k_is); (case l => k_is); (case c => k_is); (case k => k_is)
    have D_beds_of : ∃ f d, Dh.Df (L2.KOf KX) mg "beds_of" Dh.s_beds_of f d ["pairs"] := by
      unfold L2.KOf; refine' ⟨_, Dh.df_mk KX G ?a ?l ?c ?k (fun _ _ _ _ _ _ us hl => match us, hl with | [_], _ => rfl)⟩; (case a => k_is); (case l => k_is); (case c => k_is); (case k => k_is)
    have D_minutes_of : ∃ f d, Dh.Df (L2.KOf KX) mg "minutes_of" Dh.s_minutes_of f d ["pairs"] := by
      unfold L2.KOf; refine' ⟨_, Dh.df_mk KX G ?a ?l ?c ?k (fun _ _ _ _ _ _ us hl => match us, hl with | [_], _ => rfl)⟩; (case a => k_is); (case l => k_is); (case c => k_is); (case k => k_is)
    have D_visits_of : ∃ f d, Dh.Df (L2.KOf KX) mg "visits_of" Dh.s_visits_of f d ["shore", "minute", "pairs"] := by
      unfold L2.KOf; refine' ⟨_, Dh.df_mk KX G ?a ?l ?c ?k (fun _ _ _ _ _ _ us hl => match us, hl with | [_, _, _], _ => rfl)⟩; (case a => k_is); (case l => k_is); (case c => k_is); (case k => k_is)
    have D_how_long : ∃ f d, Dh.Df (L2.KOf KX) mg "how_long" Dh.s_how_long f d ["order"] := by
      unfold L2.KOf; refine' ⟨_, Dh.df_mk KX G ?a ?l ?c ?k (fun _ _ _ _ _ _ us hl => match us, hl with | [_], _ => rfl)⟩; (case a => k_is); (case l => k_is); (case c => k_is); (case k => k_is)
    have D_all_orders : ∃ f d, Dh.Df (L2.KOf KX) mg "all_orders" Dh.s_all_orders f d ["visits"] := by
      unfold L2.KOf; refine' ⟨_, Dh.df_mk KX G ?a ?l ?c ?k (fun _ _ _ _ _ _ us hl => match us, hl with | [_], _ => rfl)⟩; (case a => k_is); (case l => k_is); (case c => k_is); (case k => k_is)
    have D_with_one_more : ∃ f d, Dh.Df (L2.KOf KX) mg "with_one_more" Dh.s_with_one_more f d ["orders", "visits"] := by
      unfold L2.KOf; refine' ⟨_, Dh.df_mk KX G ?a ?l ?c ?k (fun _ _ _ _ _ _ us hl => match us, hl with | [_, _], _ => rfl)⟩; (case a => k_is); (case l => k_is); (case c => k_is); (case k => k_is)
    have D_answers : ∃ f d, Dh.Df (L2.KOf KX) mg "answers" Dh.s_answers f d ["calls"] := by
      unfold L2.KOf; refine' ⟨_, Dh.df_mk KX G ?a ?l ?c ?k (fun _ _ _ _ _ _ us hl => match us, hl with | [_], _ => rfl)⟩; (case a => k_is); (case l => k_is); (case c => k_is); (case k => k_is)
    have D_has_a_row : ∃ f d, Dh.Df (L2.KOf KX) mg "has_a_row" Dh.s_has_a_row f d ["number"] := by
      unfold L2.KOf; refine' ⟨_, Dh.df_mk KX G ?a ?l ?c ?k (fun _ _ _ _ _ _ us hl => match us, hl with | [_], _ => rfl)⟩; (case a => k_is); (case l => k_is); (case c => k_is); (case k => k_is)
    have D_begins_with_a_bed : ∃ f d, Dh.Df (L2.KOf KX) mg "begins_with_a_bed" Dh.s_begins_with_a_bed f d ["number"] := by
      unfold L2.KOf; refine' ⟨_, Dh.df_mk KX G ?a ?l ?c ?k (fun _ _ _ _ _ _ us hl => match us, hl with | [_], _ => rfl)⟩; (case a => k_is); (case l => k_is); (case c => k_is); (case k => k_is)
    have D_answer : ∃ f d, Dh.Df (L2.KOf KX) mg "answer" Dh.s_answer f d ["shore", "number", "told"] := by
      unfold L2.KOf; refine' ⟨_, Dh.df_mk KX G ?a ?l ?c ?k (fun _ _ _ _ _ _ us hl => match us, hl with | [_, _, _], _ => rfl)⟩; (case a => k_is); (case l => k_is); (case c => k_is); (case k => k_is)
    have D_answer_change : ∃ f d, Dh.Df (L2.KOf KX) mg "answer_change" Dh.s_answer_change f d ["shore", "number", "told"] := by
      unfold L2.KOf; refine' ⟨_, Dh.df_mk KX G ?a ?l ?c ?k (fun _ _ _ _ _ _ us hl => match us, hl with | [_, _, _], _ => rfl)⟩; (case a => k_is); (case l => k_is); (case c => k_is); (case k => k_is)
    have D_answer_from_a_minute : ∃ f d, Dh.Df (L2.KOf KX) mg "answer_from_a_minute" Dh.s_answer_from_a_minute f d ["shore", "number", "told"] := by
      unfold L2.KOf; refine' ⟨_, Dh.df_mk KX G ?a ?l ?c ?k (fun _ _ _ _ _ _ us hl => match us, hl with | [_, _, _], _ => rfl)⟩; (case a => k_is); (case l => k_is); (case c => k_is); (case k => k_is)
    have D_answer_of_minutes : ∃ f d, Dh.Df (L2.KOf KX) mg "answer_of_minutes" Dh.s_answer_of_minutes f d ["shore", "number", "told"] := by
      unfold L2.KOf; refine' ⟨_, Dh.df_mk KX G ?a ?l ?c ?k (fun _ _ _ _ _ _ us hl => match us, hl with | [_, _, _], _ => rfl)⟩; (case a => k_is); (case l => k_is); (case c => k_is); (case k => k_is)
    have D_answer_of_rounds_and_all : ∃ f d, Dh.Df (L2.KOf KX) mg "answer_of_rounds_and_all" Dh.s_answer_of_rounds_and_all f d ["shore", "number", "told"] := by
      unfold L2.KOf; refine' ⟨_, Dh.df_mk KX G ?a ?l ?c ?k (fun _ _ _ _ _ _ us hl => match us, hl with | [_, _, _], _ => rfl)⟩; (case a => k_is); (case l => k_is); (case c => k_is); (case k => k_is)
    have g_NO_SUCH_BED : ∃ t, mg "NO_SUCH_BED" = some (.int (-2) t) := by
      refine' Dh.gi_mk KX G ?a; (case a => k_is)
    have g_NOT_BEGUN : ∃ t, mg "NOT_BEGUN" = some (.int (-11) t) := by
      refine' Dh.gi_mk KX G ?a; (case a => k_is)
    have g_NOT_DRY : ∃ t, mg "NOT_DRY" = some (.int (-16) t) := by
      refine' Dh.gi_mk KX G ?a; (case a => k_is)
    have g_OUT_OF_RANGE : ∃ t, mg "OUT_OF_RANGE" = some (.int (-22) t) := by
      refine' Dh.gi_mk KX G ?a; (case a => k_is)
    have g_TOO_MANY : ∃ t, mg "TOO_MANY" = some (.int (-28) t) := by
      refine' Dh.gi_mk KX G ?a; (case a => k_is)
    have g_NOT_SO_SOON : ∃ t, mg "NOT_SO_SOON" = some (.int (-33) t) := by
      refine' Dh.gi_mk KX G ?a; (case a => k_is)
    have g_TOO_LATE : ∃ t, mg "TOO_LATE" = some (.int (-75) t) := by
      refine' Dh.gi_mk KX G ?a; (case a => k_is)
    have g_SPAN : ∃ t, mg "SPAN" = some (.int (1500) t) := by
      refine' Dh.gi_mk KX G ?a; (case a => k_is)
    have g_LAST_MINUTE : ∃ t, mg "LAST_MINUTE" = some (.int (100000) t) := by
      refine' Dh.gi_mk KX G ?a; (case a => k_is)
    have g_MOST_MINUTES : ∃ t, mg "MOST_MINUTES" = some (.int (1000) t) := by
      refine' Dh.gi_mk KX G ?a; (case a => k_is)
    have g_MOST_OF_FEW_MINUTES : ∃ t, mg "MOST_OF_FEW_MINUTES" = some (.int (300) t) := by
      refine' Dh.gi_mk KX G ?a; (case a => k_is)
    have g_MOST_BEDS_OF_A_ROUND : ∃ t, mg "MOST_BEDS_OF_A_ROUND" = some (.int (4) t) := by
      refine' Dh.gi_mk KX G ?a; (case a => k_is)
    have g_MOST_MINUTES_AT_A_BED : ∃ t, mg "MOST_MINUTES_AT_A_BED" = some (.int (60) t) := by
      refine' Dh.gi_mk KX G ?a; (case a => k_is)
    have g_HIGHEST_BASE : ∃ t, mg "HIGHEST_BASE" = some (.int (10000) t) := by
      refine' Dh.gi_mk KX G ?a; (case a => k_is)
    have g_HIGHEST_BED : ∃ t, mg "HIGHEST_BED" = some (.int (20000) t) := by
      refine' Dh.gi_mk KX G ?a; (case a => k_is)
    have g_MOST_BEDS : ∃ t, mg "MOST_BEDS" = some (.int (6) t) := by
      refine' Dh.gi_mk KX G ?a; (case a => k_is)
    have g_MOST_WAVES : ∃ t, mg "MOST_WAVES" = some (.int (4) t) := by
      refine' Dh.gi_mk KX G ?a; (case a => k_is)
    have g_SHORTEST_WAVE : ∃ t, mg "SHORTEST_WAVE" = some (.int (2) t) := by
      refine' Dh.gi_mk KX G ?a; (case a => k_is)
    have g_LONGEST_WAVE : ∃ t, mg "LONGEST_WAVE" = some (.int (2000) t) := by
      refine' Dh.gi_mk KX G ?a; (case a => k_is)
    have g_LOWEST_WAVE : ∃ t, mg "LOWEST_WAVE" = some (.int (1) t) := by
      refine' Dh.gi_mk KX G ?a; (case a => k_is)
    have g_HIGHEST_WAVE : ∃ t, mg "HIGHEST_WAVE" = some (.int (1000) t) := by
      refine' Dh.gi_mk KX G ?a; (case a => k_is)
    have g_BEGIN : ∃ t, mg "BEGIN" = some (.int (0) t) := by
      refine' Dh.gi_mk KX G ?a; (case a => k_is)
    have g_WAVE : ∃ t, mg "WAVE" = some (.int (1) t) := by
      refine' Dh.gi_mk KX G ?a; (case a => k_is)
    have g_BED : ∃ t, mg "BED" = some (.int (2) t) := by
      refine' Dh.gi_mk KX G ?a; (case a => k_is)
    have g_RAISE : ∃ t, mg "RAISE" = some (.int (3) t) := by
      refine' Dh.gi_mk KX G ?a; (case a => k_is)
    have g_MINUTES : ∃ t, mg "MINUTES" = some (.int (4) t) := by
      refine' Dh.gi_mk KX G ?a; (case a => k_is)
    have g_WORK : ∃ t, mg "WORK" = some (.int (5) t) := by
      refine' Dh.gi_mk KX G ?a; (case a => k_is)
    have g_HEIGHT : ∃ t, mg "HEIGHT" = some (.int (6) t) := by
      refine' Dh.gi_mk KX G ?a; (case a => k_is)
    have g_DRY : ∃ t, mg "DRY" = some (.int (7) t) := by
      refine' Dh.gi_mk KX G ?a; (case a => k_is)
    have g_NEXT : ∃ t, mg "NEXT" = some (.int (8) t) := by
      refine' Dh.gi_mk KX G ?a; (case a => k_is)
    have g_WET : ∃ t, mg "WET" = some (.int (9) t) := by
      refine' Dh.gi_mk KX G ?a; (case a => k_is)
    have g_LASTS : ∃ t, mg "LASTS" = some (.int (10) t) := by
      refine' Dh.gi_mk KX G ?a; (case a => k_is)
    have g_FITS : ∃ t, mg "FITS" = some (.int (11) t) := by
      refine' Dh.gi_mk KX G ?a; (case a => k_is)
    have g_LONGEST : ∃ t, mg "LONGEST" = some (.int (12) t) := by
      refine' Dh.gi_mk KX G ?a; (case a => k_is)
    have g_MANY : ∃ t, mg "MANY" = some (.int (13) t) := by
      refine' Dh.gi_mk KX G ?a; (case a => k_is)
    have g_STRETCHES : ∃ t, mg "STRETCHES" = some (.int (14) t) := by
      refine' Dh.gi_mk KX G ?a; (case a => k_is)
    have g_TOGETHER : ∃ t, mg "TOGETHER" = some (.int (15) t) := by
      refine' Dh.gi_mk KX G ?a; (case a => k_is)
    have g_HIGHEST : ∃ t, mg "HIGHEST" = some (.int (16) t) := by
      refine' Dh.gi_mk KX G ?a; (case a => k_is)
    have g_LOWEST : ∃ t, mg "LOWEST" = some (.int (17) t) := by
      refine' Dh.gi_mk KX G ?a; (case a => k_is)
    have g_LEAST : ∃ t, mg "LEAST" = some (.int (18) t) := by
      refine' Dh.gi_mk KX G ?a; (case a => k_is)
    have g_THROUGH : ∃ t, mg "THROUGH" = some (.int (19) t) := by
      refine' Dh.gi_mk KX G ?a; (case a => k_is)
    have g_SOONEST : ∃ t, mg "SOONEST" = some (.int (20) t) := by
      refine' Dh.gi_mk KX G ?a; (case a => k_is)
    have g_ALL : ∃ t, mg "ALL" = some (.int (21) t) := by
      refine' Dh.gi_mk KX G ?a; (case a => k_is)
    have g_WORKS : ∃ t, mg "WORKS" = some (.int (22) t) := by
      refine' Dh.gi_mk KX G ?a; (case a => k_is)
    have g_LOOK : ∃ t, mg "LOOK" = some (.int (23) t) := by
      refine' Dh.gi_mk KX G ?a; (case a => k_is)
    have t_WHOLE_NUMBERS : ∃ a, mg "WHOLE_NUMBERS" = some (.ref a) ∧ Dh.KTup (L2.KOf KX) a [1, 3, 1, 2, 1, 2, 1, 2, 2, 2, 2, 3, 3, 3, 3, 2, 2, 2, 2, 1, 1, 1, 0, 1, 0] := by
      unfold L2.KOf; refine' Dh.gt_mk KX G ?a ?l ?s ?v; (case a => k_is); (case l => k_is); (case s => decide); (case v => exact (.cons ⟨_, rfl⟩ (.cons ⟨_, rfl⟩ (.cons ⟨_, rfl⟩ (.cons ⟨_, rfl⟩ (.cons ⟨_, rfl⟩ (.cons ⟨_, rfl⟩ (.cons ⟨_, rfl⟩ (.cons ⟨_, rfl⟩ (.cons ⟨_, rfl⟩ (.cons ⟨_, rfl⟩ (.cons ⟨_, rfl⟩ (.cons ⟨_, rfl⟩ (.cons ⟨_, rfl⟩ (.cons ⟨_, rfl⟩ (.cons ⟨_, rfl⟩ (.cons ⟨_, rfl⟩ (.cons ⟨_, rfl⟩ (.cons ⟨_, rfl⟩ (.cons ⟨_, rfl⟩ (.cons ⟨_, rfl⟩ (.cons ⟨_, rfl⟩ (.cons ⟨_, rfl⟩ (.cons ⟨_, rfl⟩ (.cons ⟨_, rfl⟩ (.cons ⟨_, rfl⟩ .nil))))))))))))))))))))))))))
    have n_range : mg "range" = none := by
      refine' PySem.W.mg_none_of KX G ?a; (case a => k_is)
    have n_max : mg "max" = none := by
      refine' PySem.W.mg_none_of KX G ?a; (case a => k_is)
    have n_min : mg "min" = none := by
      refine' PySem.W.mg_none_of KX G ?a; (case a => k_is)
    have n_zip : mg "zip" = none := by
      refine' PySem.W.mg_none_of KX G ?a; (case a => k_is)
    have n_len : mg "len" = none := by
      refine' PySem.W.mg_none_of KX G ?a; (case a => k_is)
    have n_all : mg "all" = none := by
      refine' PySem.W.mg_none_of KX G ?a; (case a => k_is)
    have n_set : mg "set" = none := by
      refine' PySem.W.mg_none_of KX G ?a; (case a => k_is)
    obtain ⟨C_Wave, f_Wave_init, cc_Wave, ⟨d_Wave_init, m_Wave_init⟩, ⟨f_Wave_adds_at, d_Wave_adds_at, m_Wave_adds_at⟩, ⟨f_Wave_adds_from, d_Wave_adds_from, m_Wave_adds_from⟩, nf_Wave_each, nf_Wave_low, nf_Wave_added⟩ := L_Wave
    obtain ⟨C_Bed, f_Bed_init, cc_Bed, ⟨d_Bed_init, m_Bed_init⟩, nf_Bed_height, nf_Bed_worked⟩ := L_Bed
    obtain ⟨C_Shore, f_Shore_init, cc_Shore, ⟨d_Shore_init, m_Shore_init⟩, ⟨f_Shore_begin_afresh, d_Shore_begin_afresh, m_Shore_begin_afresh⟩, ⟨f_Shore_has_bed, d_Shore_has_bed, m_Shore_has_bed⟩, ⟨f_Shore_has_beds, d_Shore_has_beds, m_Shore_has_beds⟩, ⟨f_Shore_water_at, d_Shore_water_at, m_Shore_water_at⟩, ⟨f_Shore_waters_from, d_Shore_waters_from, m_Shore_waters_from⟩, ⟨f_Shore_is_dry, d_Shore_is_dry, m_Shore_is_dry⟩, nf_Shore_begun, nf_Shore_base, nf_Shore_minute, nf_Shore_waves, nf_Shore_beds⟩ := L_Shore
    obtain ⟨C_Visit, f_Visit_init, cc_Visit, ⟨d_Visit_init, m_Visit_init⟩, nf_Visit_bed, nf_Visit_how_many, nf_Visit_begins⟩ := L_Visit
    obtain ⟨f_is_minute, d_is_minute, m_is_minute⟩ := D_is_minute
    obtain ⟨f_is_how_many, d_is_how_many, m_is_how_many⟩ := D_is_how_many
    obtain ⟨f_is_few, d_is_few, m_is_few⟩ := D_is_few
    obtain ⟨f_is_at_a_bed, d_is_at_a_bed, m_is_at_a_bed⟩ := D_is_at_a_bed
    obtain ⟨f_are_different, d_are_different, m_are_different⟩ := D_are_different
    obtain ⟨f_is_bed_height, d_is_bed_height, m_is_bed_height⟩ := D_is_bed_height
    obtain ⟨f_is_wave, d_is_wave, m_is_wave⟩ := D_is_wave
    obtain ⟨f_dry_minutes_from, d_dry_minutes_from, m_dry_minutes_from⟩ := D_dry_minutes_from
    obtain ⟨f_first_minute, d_first_minute, m_first_minute⟩ := D_first_minute
    obtain ⟨f_first_fit, d_first_fit, m_first_fit⟩ := D_first_fit
    obtain ⟨f_first_fits, d_first_fits, m_first_fits⟩ := D_first_fits
    obtain ⟨f_dry_stretches, d_dry_stretches, m_dry_stretches⟩ := D_dry_stretches
    obtain ⟨f_minutes_all_dry, d_minutes_all_dry, m_minutes_all_dry⟩ := D_minutes_all_dry
    obtain ⟨f_begin, d_begin, m_begin⟩ := D_begin
    obtain ⟨f_add_wave, d_add_wave, m_add_wave⟩ := D_add_wave
    obtain ⟨f_add_bed, d_add_bed, m_add_bed⟩ := D_add_bed
    obtain ⟨f_raise_bed, d_raise_bed, m_raise_bed⟩ := D_raise_bed
    obtain ⟨f_pass_minutes, d_pass_minutes, m_pass_minutes⟩ := D_pass_minutes
    obtain ⟨f_work_at_bed, d_work_at_bed, m_work_at_bed⟩ := D_work_at_bed
    obtain ⟨f_tell_height, d_tell_height, m_tell_height⟩ := D_tell_height
    obtain ⟨f_tell_dry, d_tell_dry, m_tell_dry⟩ := D_tell_dry
    obtain ⟨f_tell_next, d_tell_next, m_tell_next⟩ := D_tell_next
    obtain ⟨f_tell_wet, d_tell_wet, m_tell_wet⟩ := D_tell_wet
    obtain ⟨f_tell_lasts, d_tell_lasts, m_tell_lasts⟩ := D_tell_lasts
    obtain ⟨f_tell_fits, d_tell_fits, m_tell_fits⟩ := D_tell_fits
    obtain ⟨f_tell_all, d_tell_all, m_tell_all⟩ := D_tell_all
    obtain ⟨f_tell_works, d_tell_works, m_tell_works⟩ := D_tell_works
    obtain ⟨f_tell_look, d_tell_look, m_tell_look⟩ := D_tell_look
    obtain ⟨f_tell_state, d_tell_state, m_tell_state⟩ := D_tell_state
    obtain ⟨f_one_if_dry, d_one_if_dry, m_one_if_dry⟩ := D_one_if_dry
    obtain ⟨f_are_minutes, d_are_minutes, m_are_minutes⟩ := D_are_minutes
    obtain ⟨f_tell_longest, d_tell_longest, m_tell_longest⟩ := D_tell_longest
    obtain ⟨f_tell_many, d_tell_many, m_tell_many⟩ := D_tell_many
    obtain ⟨f_tell_stretches, d_tell_stretches, m_tell_stretches⟩ := D_tell_stretches
    obtain ⟨f_tell_together, d_tell_together, m_tell_together⟩ := D_tell_together
    obtain ⟨f_tell_highest, d_tell_highest, m_tell_highest⟩ := D_tell_highest
    obtain ⟨f_tell_lowest, d_tell_lowest, m_tell_lowest⟩ := D_tell_lowest
    obtain ⟨f_tell_least, d_tell_least, m_tell_least⟩ := D_tell_least
    obtain ⟨f_tell_through, d_tell_through, m_tell_through⟩ := D_tell_through
    obtain ⟨f_tell_soonest, d_tell_soonest, m_tell_soonest⟩ := D_tell_soonest
    obtain ⟨f_round_refused, d_round_refused, m_round_refused⟩ := D_round_refused
    obtain ⟨f_is_a_round, d_is_a_round, m_is_a_round⟩ := D_is_a_round
    obtain ⟨f_beds_of, d_beds_of, m_beds_of⟩ := D_beds_of
    obtain ⟨f_minutes_of, d_minutes_of, m_minutes_of⟩ := D_minutes_of
    obtain ⟨f_visits_of, d_visits_of, m_visits_of⟩ := D_visits_of
    obtain ⟨f_how_long, d_how_long, m_how_long⟩ := D_how_long
    obtain ⟨f_all_orders, d_all_orders, m_all_orders⟩ := D_all_orders
    obtain ⟨f_with_one_more, d_with_one_more, m_with_one_more⟩ := D_with_one_more
    obtain ⟨f_answers, d_answers, m_answers⟩ := D_answers
    obtain ⟨f_has_a_row, d_has_a_row, m_has_a_row⟩ := D_has_a_row
    obtain ⟨f_begins_with_a_bed, d_begins_with_a_bed, m_begins_with_a_bed⟩ := D_begins_with_a_bed
    obtain ⟨f_answer, d_answer, m_answer⟩ := D_answer
    obtain ⟨f_answer_change, d_answer_change, m_answer_change⟩ := D_answer_change
    obtain ⟨f_answer_from_a_minute, d_answer_from_a_minute, m_answer_from_a_minute⟩ := D_answer_from_a_minute
    obtain ⟨f_answer_of_minutes, d_answer_of_minutes, m_answer_of_minutes⟩ := D_answer_of_minutes
    obtain ⟨f_answer_of_rounds_and_all, d_answer_of_rounds_and_all, m_answer_of_rounds_and_all⟩ := D_answer_of_rounds_and_all
    obtain ⟨w_WHOLE_NUMBERS, u_WHOLE_NUMBERS⟩ := t_WHOLE_NUMBERS
    have T : Dh.Tx (L2.KOf KX) mg ⟨C_Wave, C_Bed, C_Shore, C_Visit, f_is_minute, d_is_minute, f_is_how_many, d_is_how_many, f_is_few, d_is_few, f_is_at_a_bed, d_is_at_a_bed, f_are_different, d_are_different, f_is_bed_height, d_is_bed_height, f_is_wave, d_is_wave, f_dry_minutes_from, d_dry_minutes_from, f_first_minute, d_first_minute, f_first_fit, d_first_fit, f_first_fits, d_first_fits, f_dry_stretches, d_dry_stretches, f_minutes_all_dry, d_minutes_all_dry, f_Wave_init, d_Wave_init, f_Wave_adds_at, d_Wave_adds_at, f_Wave_adds_from, d_Wave_adds_from, f_Bed_init, d_Bed_init, f_Shore_init, d_Shore_init, f_Shore_begin_afresh, d_Shore_begin_afresh, f_Shore_has_bed, d_Shore_has_bed, f_Shore_has_beds, d_Shore_has_beds, f_Shore_water_at, d_Shore_water_at, f_Shore_waters_from, d_Shore_waters_from, f_Shore_is_dry, d_Shore_is_dry, f_begin, d_begin, f_add_wave, d_add_wave, f_add_bed, d_add_bed, f_raise_bed, d_raise_bed, f_pass_minutes, d_pass_minutes, f_work_at_bed, d_work_at_bed, f_tell_height, d_tell_height, f_tell_dry, d_tell_dry, f_tell_next, d_tell_next, f_tell_wet, d_tell_wet, f_tell_lasts, d_tell_lasts, f_tell_fits, d_tell_fits, f_tell_all, d_tell_all, f_tell_works, d_tell_works, f_tell_look, d_tell_look, f_tell_state, d_tell_state, f_one_if_dry, d_one_if_dry, f_are_minutes, d_are_minutes, f_tell_longest, d_tell_longest, f_tell_many, d_tell_many, f_tell_stretches, d_tell_stretches, f_tell_together, d_tell_together, f_tell_highest, d_tell_highest, f_tell_lowest, d_tell_lowest, f_tell_least, d_tell_least, f_Visit_init, d_Visit_init, f_tell_through, d_tell_through, f_tell_soonest, d_tell_soonest, f_round_refused, d_round_refused, f_is_a_round, d_is_a_round, f_beds_of, d_beds_of, f_minutes_of, d_minutes_of, f_visits_of, d_visits_of, f_how_long, d_how_long, f_all_orders, d_all_orders, f_with_one_more, d_with_one_more, f_answers, d_answers, f_has_a_row, d_has_a_row, f_begins_with_a_bed, d_begins_with_a_bed, f_answer, d_answer, f_answer_change, d_answer_change, f_answer_from_a_minute, d_answer_from_a_minute, f_answer_of_minutes, d_answer_of_minutes, f_answer_of_rounds_and_all, d_answer_of_rounds_and_all, w_WHOLE_NUMBERS⟩ := ⟨cc_Wave, nf_Wave_each, nf_Wave_low, nf_Wave_added, cc_Bed, nf_Bed_height, nf_Bed_worked, cc_Shore, nf_Shore_begun, nf_Shore_base, nf_Shore_minute, nf_Shore_waves, nf_Shore_beds, cc_Visit, nf_Visit_bed, nf_Visit_how_many, nf_Visit_begins, m_is_minute, m_is_how_many, m_is_few, m_is_at_a_bed, m_are_different, m_is_bed_height, m_is_wave, m_dry_minutes_from, m_first_minute, m_first_fit, m_first_fits, m_dry_stretches, m_minutes_all_dry, m_Wave_init, m_Wave_adds_at, m_Wave_adds_from, m_Bed_init, m_Shore_init, m_Shore_begin_afresh, m_Shore_has_bed, m_Shore_has_beds, m_Shore_water_at, m_Shore_waters_from, m_Shore_is_dry, m_begin, m_add_wave, m_add_bed, m_raise_bed, m_pass_minutes, m_work_at_bed, m_tell_height, m_tell_dry, m_tell_next, m_tell_wet, m_tell_lasts, m_tell_fits, m_tell_all, m_tell_works, m_tell_look, m_tell_state, m_one_if_dry, m_are_minutes, m_tell_longest, m_tell_many, m_tell_stretches, m_tell_together, m_tell_highest, m_tell_lowest, m_tell_least, m_Visit_init, m_tell_through, m_tell_soonest, m_round_refused, m_is_a_round, m_beds_of, m_minutes_of, m_visits_of, m_how_long, m_all_orders, m_with_one_more, m_answers, m_has_a_row, m_begins_with_a_bed, m_answer, m_answer_change, m_answer_from_a_minute, m_answer_of_minutes, m_answer_of_rounds_and_all, g_NO_SUCH_BED, g_NOT_BEGUN, g_NOT_DRY, g_OUT_OF_RANGE, g_TOO_MANY, g_NOT_SO_SOON, g_TOO_LATE, g_SPAN, g_LAST_MINUTE, g_MOST_MINUTES, g_MOST_OF_FEW_MINUTES, g_MOST_BEDS_OF_A_ROUND, g_MOST_MINUTES_AT_A_BED, g_HIGHEST_BASE, g_HIGHEST_BED, g_MOST_BEDS, g_MOST_WAVES, g_SHORTEST_WAVE, g_LONGEST_WAVE, g_LOWEST_WAVE, g_HIGHEST_WAVE, g_BEGIN, g_WAVE, g_BED, g_RAISE, g_MINUTES, g_WORK, g_HEIGHT, g_DRY, g_NEXT, g_WET, g_LASTS, g_FITS, g_LONGEST, g_MANY, g_STRETCHES, g_TOGETHER, g_HIGHEST, g_LOWEST, g_LEAST, g_THROUGH, g_SOONEST, g_ALL, g_WORKS, g_LOOK, u_WHOLE_NUMBERS, n_range, n_max, n_min, n_zip, n_len, n_all, n_set⟩
    have e := hmg.symm.trans m_answers.mg
    cases e
    exact ⟨d_answers, Dh.binds_any m_answers.fn (fun _ _ _ _ _ _ us hl => match us, hl with | [_], _ => rfl), fun base _ _ => Dh.ok_answers T⟩
  case S =>
    intro K H xs a hO hwi hask hx
    cases hx with
    | cons h1 h2 =>
      cases h2
      cases h1 with
      | lst hs ha =>
        have e := L2.ints_dw a.1 _ ha
        subst e
        have q : ((Codec.inLen 0 30000 a.1 && a.1.all (Codec.inInt 0 4294967295)) && true) = true := hwi
        rw [Bool.and_eq_true, Bool.and_eq_true] at q
        exact ⟨_, a.1, rfl, hs, hO, (Codec.inNat_iff.mp q.1.1).2, hask, fun H' p hp => .lst (L2.SqL.of hp) (L2.dw_ints _)⟩
#print axioms PySem.Challenge.cw_dryhours_s01_answers_holds



end
