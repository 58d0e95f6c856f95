import PyProof.Rows.All
import Wide.All
import OpenK.AllK
import Wide.FinOn
import PyProof.EqAt
import PyProof.EqKinds
import PyProof.TupleCall
import KE.BitLaws
import KE.KNestM
import PyProof.SetNew
import PyProof.SetRoads
import PyProof.Rows.SetObj
import PyProof.ListRange
import PyProof.RangeFor
import PyProof.Rows.InDataRows
import KE.KDictSum
import PyProof.Rows.SortRuns
import PyProof.Rows.SortShell
import PySem.Challenge.RW_tagmachine_k21_whole_each_word_by_itself
section
open PySem PySem.W PyProof.Rows
set_option Elab.async false
set_option linter.all false
set_option maxRecDepth 100000
set_option maxHeartbeats 0
def PySem.W.Fast.tw16623406698482451719 : Nat := 0
def PySem.W.Fast.tw16018917521145777535 : Nat := 0
def PySem.W.Fast.tw16527862775781960691 : Nat := 0
def PySem.W.Fast.tw805765646861919253 : Nat := 0
def PySem.W.Fast.tw3094701115853657799 : Nat := 0
open_top head for PySem.Challenge.rw_tagmachine_k21_whole_each_word_by_itself

end
set_option Elab.async false
set_option linter.all false
set_option maxRecDepth 100000
namespace L2
open PySem PySem.Spec PyProof.Rows
abbrev Key := Sum Int Str
def keyIs : Key → Value → Bool
  | .inl k, v => Value.isInt k v
  | .inr x, v => Value.isStrOf x v
def keyH (w : World) : Key → Int
  | .inl k => hashInt k
  | .inr x => hashStr w x
theorem keyIs_shape : ∀ {k : Key} {v : Value}, keyIs k v = true → (∃ i t, k = Sum.inl i ∧ v = Value.int i t) ∨ (∃ x t, k = Sum.inr x ∧ v = Value.str x t)
  | .inl i, v, h => by
    obtain ⟨t, e⟩ := Value.isInt_shape (k := i) (v := v) h
    exact .inl ⟨i, t, rfl, e⟩
  | .inr x, v, h => by
    obtain ⟨t, e⟩ := Value.isStrOf_shape (x := x) (v := v) h
    exact .inr ⟨x, t, rfl, e⟩
theorem keyIs_int (i : Int) (t : Tok) : keyIs (.inl i) (.int i t) = true := by simp [keyIs, Value.isInt]
theorem keyIs_str (x : Str) (t : Tok) : keyIs (.inr x) (.str x t) = true := by simp [keyIs, Value.isStrOf]
theorem key_ll (a b : Int) : decide ((Sum.inl a : Key) = Sum.inl b) = (a == b) := by
  by_cases e : a = b
  · subst e; simp
  · have h : ¬ (Sum.inl a : Key) = Sum.inl b := fun q => e (Sum.inl.inj q)
    rw [decide_eq_false h]
    exact (beq_eq_false_iff_ne.mpr e).symm
theorem key_rr (a b : Str) : decide ((Sum.inr a : Key) = Sum.inr b) = decide (a = b) := by
  by_cases e : a = b
  · subst e; simp
  · have h : ¬ (Sum.inr a : Key) = Sum.inr b := fun q => e (Sum.inr.inj q)
    rw [decide_eq_false h, decide_eq_false e]
theorem key_lr (a : Int) (b : Str) : decide ((Sum.inl a : Key) = Sum.inr b) = false := decide_eq_false (fun q => nomatch q)
theorem key_rl (a : Str) (b : Int) : decide ((Sum.inr a : Key) = Sum.inl b) = false := decide_eq_false (fun q => nomatch q)
def mixKind (prog : Program) (w : World) : PySem.KeyKind prog w Key where
  is := keyIs
  hash := keyH w
  inj := fun v a b ha hb => by
    rcases keyIs_shape ha with ⟨i, t, rfl, rfl⟩ | ⟨x, t, rfl, rfl⟩
    · rcases keyIs_shape hb with ⟨j, u, rfl, e⟩ | ⟨y, u, rfl, e⟩
      · injection e with e1 _; rw [e1]
      · exact nomatch e
    · rcases keyIs_shape hb with ⟨j, u, rfl, e⟩ | ⟨y, u, rfl, e⟩
      · exact nomatch e
      · injection e with e1 _; rw [e1]
  byValue := fun k v h => by
    rcases keyIs_shape h with ⟨i, t, rfl, rfl⟩ | ⟨x, t, rfl, rfl⟩ <;> rfl
  pyHash := fun hv h => by
    rcases keyIs_shape hv with ⟨i, t, rfl, rfl⟩ | ⟨x, t, rfl, rfl⟩
    · exact wpAny_pyHash_int h
    · exact wpAny_pyHash_str h
  eqBool := fun hu hv h => by
    rcases keyIs_shape hu with ⟨i, t, rfl, rfl⟩ | ⟨x, t, rfl, rfl⟩
    · rcases keyIs_shape hv with ⟨j, u, rfl, rfl⟩ | ⟨y, u, rfl, rfl⟩
      · rw [key_ll] at h; exact wpAny_eqBool_int h
      · rw [key_lr] at h; exact SeqAt.EqAt.int_str i t y u _ _ _ _ h
    · rcases keyIs_shape hv with ⟨j, u, rfl, rfl⟩ | ⟨y, u, rfl, rfl⟩
      · rw [key_rl] at h; exact SeqAt.EqAt.str_int x t j u _ _ _ _ h
      · rw [key_rr] at h; exact wpAny_eqBool_str h
  «strs» := fun k x t v h => by
    rcases keyIs_shape h with ⟨i, u, rfl, e⟩ | ⟨y, u, rfl, e⟩
    · exact nomatch e
    · injection e with e1 _
      subst e1
      cases v <;> rfl
theorem mixKind_int (prog : Program) (w : World) (i : Int) (t : Tok) : (mixKind prog w).is (.inl i) (.int i t) = true := keyIs_int i t
theorem mixKind_str (prog : Program) (w : World) (x : Str) (t : Tok) : (mixKind prog w).is (.inr x) (.str x t) = true := keyIs_str x t
end L2
namespace L2
open PySem PySem.Spec PyProof.Rows
inductive V where
  | non | bl (b : Bool) | int (i : Int) | str (x : Str) | byt (b : Array UInt8) | flt (b : UInt64) | ref (a : Addr) | ty (n : String)
  deriving DecidableEq
def RelV : V → Value → Prop
  | .non, u => u = Value.none
  | .bl b, u => u = Value.bool b
  | .int i, u => ∃ t, u = Value.int i t
  | .str x, u => ∃ t, u = Value.str x t
  | .byt b, u => ∃ t, u = Value.bytes b t
  | .flt b, u => ∃ t, u = Value.float b t
  | .ref a, u => u = Value.ref a
  | .ty n, u => u = Value.type n
abbrev Vals : List V → List Value → Prop := Paired RelV
theorem Vals.length {xs : List V} {us : List Value} (r : Vals xs us) : xs.length = us.length := Paired.length r
theorem Vals.get : ∀ {xs : List V} {us : List Value} {i : Nat} {x : V}, Vals xs us → xs[i]? = some x → ∃ u, us[i]? = some u ∧ RelV x u
  | _, _, _, _, .nil, e => by simp at e
  | _, _, 0, _, .cons r _, e => by simp at e; subst e; exact ⟨_, rfl, r⟩
  | _, _, i + 1, x, .cons _ t, e => by
    obtain ⟨u, h1, h2⟩ := Vals.get (i := i) (x := x) t (by simpa using e)
    exact ⟨u, by simpa using h1, h2⟩
theorem Vals.set {x : V} {u : Value} (r : RelV x u) : ∀ {xs : List V} {us : List Value} (i : Nat), Vals xs us → Vals (xs.set i x) (us.set i u)
  | _, _, _, .nil => .nil
  | _, _, 0, .cons _ t => .cons r t
  | _, _, i + 1, .cons q t => .cons q (Vals.set r i t)
theorem Vals.append : ∀ {xs ys : List V} {us ws : List Value}, Vals xs us → Vals ys ws → Vals (xs ++ ys) (us ++ ws)
  | _, _, _, _, .nil, s => s
  | _, _, _, _, .cons r t, s => .cons r (Vals.append t s)
theorem Vals.take : ∀ {xs : List V} {us : List Value} (n : Nat), Vals xs us → Vals (xs.take n) (us.take n)
  | _, _, 0, _ => .nil
  | _, _, _ + 1, .nil => .nil
  | _, _, n + 1, .cons r t => .cons r (Vals.take n t)
theorem Vals.drop : ∀ {xs : List V} {us : List Value} (n : Nat), Vals xs us → Vals (xs.drop n) (us.drop n)
  | _, _, 0, r => r
  | _, _, _ + 1, .nil => .nil
  | _, _, n + 1, .cons _ t => Vals.drop n t
theorem Vals.none_of : ∀ {xs : List V} {us : List Value} {i : Nat}, Vals xs us → xs[i]? = none → us[i]? = none := fun {xs us i} r e => by
  have h1 := r.length
  have h2 : xs.length ≤ i := List.getElem?_eq_none_iff.mp e
  exact List.getElem?_eq_none_iff.mpr (by omega)
def RelO : Option V → Option Value → Prop
  | some v, some u => RelV v u
  | none, none => True
  | _, _ => False
def KV {κ : Type} : List (κ × V) → List (κ × Value) → Prop := Paired fun (p : κ × V) (q : κ × Value) => p.1 = q.1 ∧ RelV p.2 q.2
def kV : Key → V
  | .inl i => .int i
  | .inr x => .str x
inductive HO where
  /-- a list -/
  | lst (xs : List V)
  /-- a tuple (never changes) -/
  | tup (xs : List V)
  /-- a dict whose keys are ints and texts; one whose keys are tuples of ints and texts (the empty one is both) -/
  | dK (kvs : List (Key × V)) | dT (kvs : List (List Key × V))
  /-- a set of ints: its members, its size -/
  | set (S : Int → Bool) (n : Nat)
  /-- an instance of the class at C, its dict at dx, its attributes -/
  | ins (C dx : Addr) (fs : List (Str × V))
  /-- the dict of the instance at x -/
  | own (x : Addr)
  /-- the dict of an exception -/
  | xd (fs : List (Str × V))
  /-- a bound method, f of x -/
  | met (f x : Addr)
  /-- a range object lo, lo + 1, .. below hi -/
  | rng (lo hi : Int)
  /-- a thing that is known to the object (the script; a dict while a loop walks it): read, never written while it is so -/
  | frz (o : Obj) (u : HO)
  /-- a code object's table -/
  | tbl (ps : Array Value)
  /-- any other thing, by what is true of its one object (a def of one's own: SetO a S n := HO.ext fun h => ..) -/
  | ext (φ : Heap → Prop)
abbrev Hp := Addr → Option HO
def upd (H : Hp) (a : Addr) (o : HO) : Hp := fun b => if b = a then some o else H b
theorem upd_same {H : Hp} {a : Addr} {o : HO} : upd H a o a = some o := by unfold upd; rw [if_pos rfl]
theorem upd_ne {H : Hp} {a b : Addr} {o : HO} (h : b ≠ a) : upd H a o b = H b := by unfold upd; rw [if_neg h]
theorem upd_upd {H : Hp} {a : Addr} {o u : HO} : upd (upd H a o) a u = upd H a u := by
  funext b; unfold upd; split <;> rfl
theorem ne_of {H : Hp} {a b : Addr} {o u : HO} (h : H a = some o) (h' : H b = some u) (d : o ≠ u) : a ≠ b := by
  intro e; subst e; rw [h] at h'; exact d (Option.some.inj h')
theorem ne_of_none {H : Hp} {a b : Addr} {o : HO} (h : H a = some o) (h' : H b = none) : a ≠ b := by
  intro e; subst e; rw [h] at h'; cases h'
section
variable (P : Program) (w : World)
def ObjOk (H : Hp) (h : Heap) (a : Addr) : HO → Prop
  | .lst xs => xs.length ≤ sizeLine ∧ ∃ (its : List Value) (n : Nat), Vals xs its ∧ h.get? a = some { cls := .type "list", data := .seq its.toArray n }
  | .tup xs => xs.length ≤ sizeLine ∧ ∃ its : List Value, Vals xs its ∧ IsTup h a its.toArray
  | .dK kvs => kvs.length ≤ sizeLine ∧ (a == sysModules) = false ∧ ∃ vs, KV kvs vs ∧ h.DictOf (mixKind P w) a vs
  | .dT kvs => kvs.length ≤ sizeLine ∧ (a == sysModules) = false ∧ ∃ xs : List (List Key × Addr × Value),
      Paired (fun (p : List Key × V) (q : List Key × Addr × Value) => p.1 = q.1 ∧ H q.2.1 = some (.tup (p.1.map kV)) ∧ RelV p.2 q.2.2) kvs xs ∧
      ∃ o es ep, h.get? a = some o ∧ o.ExactDict ∧ o.data = .dict es ep ∧ es.toList = xs.map (entryOfKey (tupleKind (mixKind P w))) ∧ (xs.map (·.1)).Nodup
  | .set S n => h.SetOf (intKind P w) a S n
  | .ins C dx fs => H dx = some (.own a) ∧ fs.length ≤ 1000 ∧ dx ≠ a ∧ h.get? a = some (PySem.W.instObj C dx) ∧
      ∃ mA, h.Ns1 dx mA ∧ (∀ f, RelO (fs.lookup f) (mA f)) ∧ PySem.Within mA (fs.map (·.1))
  | .own _ => ∃ o, h.get? a = some o
  | .xd fs => ∃ mA, h.Ns1 a mA ∧ ∀ f, RelO (fs.lookup f) (mA f)
  | .rng lo hi => ∃ t u v, h.get? a = some { cls := .type "range", data := .fields #[.int lo t, .int hi u, .int 1 v] }
  | .frz o u => h.get? a = some o ∧ ObjOk H h a u
  | .tbl ps => h.get? a = some { cls := .none, data := .fields ps }
  | .met f x => h.get? a = some (PySem.W.methodObj (.ref f) (.ref x))
  | .ext φ => φ h ∧ (∃ o, h.get? a = some o) ∧ ∀ h1 h2 : Heap, φ h1 → (∀ o, h1.get? a = some o → h2.get? a = some o) → φ h2
def HOk (H : Hp) (h : Heap) : Prop := ∀ a o, H a = some o → ObjOk P w H h a o
end
section
variable {P : Program} {w : World} {H H' : Hp} {h h' : Heap} {a : Addr} {o : HO}
theorem ObjOk.lt (x : ObjOk P w H h a o) : a < h.objs.size := by
  cases o with
  | lst xs => obtain ⟨_, _, _, _, e⟩ := x; exact Heap.lt_size e
  | tup xs => obtain ⟨_, _, _, p⟩ := x; exact p.lt
  | dK kvs => obtain ⟨_, _, _, _, o, _, _, e, _⟩ := x; exact Heap.lt_size e
  | dT kvs => obtain ⟨_, _, _, _, o, _, _, e, _⟩ := x; exact Heap.lt_size e
  | set S n => obtain ⟨o, _, _, _, e, _⟩ := x; exact Heap.lt_size e
  | ins C dx fs => obtain ⟨_, _, _, e, _⟩ := x; exact Heap.lt_size e
  | own y => obtain ⟨_, e⟩ := x; exact Heap.lt_size e
  | xd fs => obtain ⟨_, ⟨_, _, _, e, _⟩, _⟩ := x; exact Heap.lt_size e
  | rng lo hi => obtain ⟨_, _, _, e⟩ := x; exact Heap.lt_size e
  | frz ob u => obtain ⟨e, _⟩ := x; exact Heap.lt_size e
  | tbl ps => exact Heap.lt_size (show h.get? a = some _ from x)
  | met f y => exact Heap.lt_size (show h.get? a = some _ from x)
  | ext φ => obtain ⟨_, ⟨_, e⟩, _⟩ := x; exact Heap.lt_size e
theorem Paired.mapP {α β : Type} {F G : α → β → Prop} : ∀ {l₁ : List α} {l₂ : List β}, Paired F l₁ l₂ → (∀ a b, F a b → G a b) → Paired G l₁ l₂
  | _, _, .nil, _ => .nil
  | _, _, .cons r t, f => .cons (f _ _ r) (Paired.mapP t f)
theorem ObjOk.stay (x : ObjOk P w H h a o) (k : ∀ b u, (b = a ∨ H b = some (.own a)) → h.get? b = some u → h'.get? b = some u)
    (ho : ∀ b, H b = some (.own a) → H' b = some (.own a)) (ht : ∀ b xs, H b = some (.tup xs) → H' b = some (.tup xs)) : ObjOk P w H' h' a o := by
  induction o with
  | lst xs => obtain ⟨z, its, n, r, e⟩ := x; exact ⟨z, its, n, r, k _ _ (.inl rfl) e⟩
  | tup xs => obtain ⟨z, its, r, ob, e, c⟩ := x; exact ⟨z, its, r, ob, k _ _ (.inl rfl) e, c⟩
  | dK kvs => obtain ⟨z, y, vs, r, ob, es, ep, e, c⟩ := x; exact ⟨z, y, vs, r, ob, es, ep, k _ _ (.inl rfl) e, c⟩
  | dT kvs =>
    obtain ⟨z, y, xs, r, ob, es, ep, e, c⟩ := x
    exact ⟨z, y, xs, Paired.mapP r fun p q z => ⟨z.1, ht _ _ z.2.1, z.2.2⟩, ob, es, ep, k _ _ (.inl rfl) e, c⟩
  | set S n => obtain ⟨ob, es, ep, t, e, c⟩ := x; exact ⟨ob, es, ep, t, k _ _ (.inl rfl) e, c⟩
  | ins C dx fs =>
    obtain ⟨d, z, ne, e, mA, ⟨od, es, ep, e2, c⟩, r⟩ := x
    exact ⟨ho _ d, z, ne, k _ _ (.inl rfl) e, mA, ⟨od, es, ep, k _ _ (.inr d) e2, c⟩, r⟩
  | own y => obtain ⟨ob, e⟩ := x; exact ⟨ob, k _ _ (.inl rfl) e⟩
  | xd fs => obtain ⟨mA, ⟨od, es, ep, e, c⟩, r⟩ := x; exact ⟨mA, ⟨od, es, ep, k _ _ (.inl rfl) e, c⟩, r⟩
  | rng lo hi => obtain ⟨t, u, v, e⟩ := x; exact ⟨t, u, v, k _ _ (.inl rfl) e⟩
  | frz ob u ih => obtain ⟨e, q⟩ := x; exact ⟨k _ _ (.inl rfl) e, ih q⟩
  | tbl ps =>
    have e : h.get? a = some { cls := .none, data := .fields ps } := x
    show h'.get? a = some { cls := .none, data := .fields ps }
    exact k a _ (.inl rfl) e
  | met f y =>
    have e : h.get? a = some (PySem.W.methodObj (.ref f) (.ref y)) := x
    show h'.get? a = some (PySem.W.methodObj (.ref f) (.ref y))
    exact k a _ (.inl rfl) e
  | ext φ => obtain ⟨p, ⟨o, e⟩, st⟩ := x; exact ⟨st _ _ p fun o q => k _ _ (.inl rfl) q, ⟨o, k _ _ (.inl rfl) e⟩, st⟩
theorem HOk.lt (x : HOk P w H h) (e : H a = some o) : a < h.objs.size := (x a o e).lt
theorem HOk.fresh (x : HOk P w H h) (e : h.objs.size ≤ a) : H a = none := by
  cases q : H a with
  | none => rfl
  | some u => exact absurd (Nat.lt_of_lt_of_le (x.lt q) e) (Nat.lt_irrefl _)
theorem HOk.kept (x : HOk P w H h) (k : ∀ b u, h.get? b = some u → h'.get? b = some u) : HOk P w H h' := fun a o e =>
  (x a o e).stay (fun b u _ q => k b u q) (fun _ q => q) fun _ _ q => q
theorem HOk.laid (x : HOk P w H h) (k : ∀ b u, h.get? b = some u → h'.get? b = some u) (hp : h.objs.size ≤ a) (new : ObjOk P w (upd H a o) h' a o) : HOk P w (upd H a o) h' := fun b u e => by
  have hn := x.fresh hp
  by_cases hb : b = a
  · subst hb; rw [upd_same] at e; cases e; exact new
  · rw [upd_ne hb] at e
    exact (x b u e).stay (fun c v _ q => k c v q) (fun c q => by rw [upd_ne (ne_of_none q hn)]; exact q) fun c xs q => by rw [upd_ne (ne_of_none q hn)]; exact q
end
def Rd (H : Hp) (a : Addr) (u : HO) : Prop := H a = some u ∨ ∃ o, H a = some (.frz o u)
theorem Rd.of {H : Hp} {a : Addr} {u : HO} (h : H a = some u) : Rd H a u := .inl h
theorem Rd.ok {P : Program} {w : World} {H : Hp} {h : Heap} {a : Addr} {u : HO} (r : Rd H a u) (x : HOk P w H h) : ObjOk P w H h a u := by
  rcases r with r | ⟨o, r⟩
  · exact x a u r
  · obtain ⟨_, q⟩ := x a _ r
    exact q
def Mut : Option HO → Prop
  | some (.lst _) => True
  | some (.dK _) => True
  | some (.dT _) => True
  | some (.set _ _) => True
  | some (.ins _ _ _) => True
  | some (.ext _) => True
  | _ => False
section
variable {P : Program} {w : World} {H : Hp} {h h' : Heap} {x e : Addr} {o' : HO}
theorem HOk.write (ok : HOk P w H h) (mu : Mut (H x)) (he : e = x ∨ H e = some (.own x)) (k : ∀ b u, b ≠ e → h.get? b = some u → h'.get? b = some u) (heo : ∃ u, h'.get? e = some u)
    (new : ObjOk P w (upd H x o') h' x o') : HOk P w (upd H x o') h' := fun b u q => by
  have nown : ∀ c y, H c = some (.own y) → c ≠ x := fun c y r z => by subst z; rw [r] at mu; exact mu
  have ntup : ∀ c xs, H c = some (.tup xs) → c ≠ x := fun c xs r z => by subst z; rw [r] at mu; exact mu
  by_cases hb : b = x
  · subst hb; rw [upd_same] at q; cases q; exact new
  · rw [upd_ne hb] at q
    by_cases hbe : b = e
    · have q' : H b = some (.own x) := by
        rcases he with z | z
        · exact absurd (hbe.trans z) hb
        · rw [hbe]; exact z
      rw [q] at q'; cases q'
      obtain ⟨v, hv⟩ := heo
      exact ⟨v, by rw [hbe]; exact hv⟩
    · refine (ok b u q).stay (fun c v hc r => k c v ?_ r) (fun c r => by rw [upd_ne (nown c b r)]; exact r) fun c xs r => by rw [upd_ne (ntup c xs r)]; exact r
      rcases hc with rfl | hc
      · exact hbe
      · rintro rfl
        rcases he with z | z
        · exact nown c b hc z
        · rw [hc] at z; cases z; exact hb rfl
end
structure Un (fs ex : List Addr) (H H' : Hp) (h h' : Heap) : Prop where
  keep : ∀ b o, h.get? b = some o → H b = none → b ∉ fs → b ∉ ex → h'.get? b = some o
  slot : ∀ b o, h.get? b = some o → H b = none → b ∈ fs → b ∉ ex → ∃ sl, h'.get? b = some { o with slots := sl }
  free : ∀ b o, h.get? b = some o → H b = none → b ∉ ex → H' b = none
  there : ∀ b o, h.get? b = some o → b ∉ ex → ∃ o', h'.get? b = some o'
  tups : ∀ b xs, H b = some (.tup xs) → H' b = some (.tup xs)
  frzs : ∀ b o u, H b = some (.frz o u) → H' b = some (.frz o u)
  tbls : ∀ b ps, H b = some (.tbl ps) → ∃ more, H' b = some (.tbl (ps ++ more))
section
variable {fs fs' ex ex' : List Addr} {H H1 H2 : Hp} {h h1 h2 h' : Heap} {a x e : Addr} {o : HO}
theorem Un.any (u : Un fs ex H H1 h h1) {b : Addr} {ob : Obj} (q : h.get? b = some ob) (n : H b = none) (hx : b ∉ ex) : ∃ sl, h1.get? b = some { ob with slots := sl } := by
  by_cases hb : b ∈ fs
  · exact u.slot b ob q n hb hx
  · exact ⟨ob.slots, u.keep b ob q n hb hx⟩
theorem Un.trans (a : Un fs ex H H1 h h1) (b : Un fs ex H1 H2 h1 h2) : Un fs ex H H2 h h2 where
  keep := fun c ob q n hc hx => b.keep c ob (a.keep c ob q n hc hx) (a.free c ob q n hx) hc hx
  slot := fun c ob q n hc hx => by
    obtain ⟨sl, e1⟩ := a.slot c ob q n hc hx
    obtain ⟨sl', e2⟩ := b.slot c _ e1 (a.free c ob q n hx) hc hx
    exact ⟨sl', e2⟩
  free := fun c ob q n hx => by
    obtain ⟨o', e1⟩ := a.there c ob q hx
    exact b.free c o' e1 (a.free c ob q n hx) hx
  there := fun c ob q hx => by
    obtain ⟨o', e1⟩ := a.there c ob q hx
    exact b.there c o' e1 hx
  tups := fun c xs q => b.tups c xs (a.tups c xs q)
  frzs := fun c ob xs q => b.frzs c ob xs (a.frzs c ob xs q)
  tbls := fun c ps q => by
    obtain ⟨m1, e1⟩ := a.tbls c ps q
    obtain ⟨m2, e2⟩ := b.tbls c _ e1
    exact ⟨m1 ++ m2, by rw [e2, Array.append_assoc]⟩
theorem Un.kept (k : ∀ b u, h.get? b = some u → h'.get? b = some u) : Un fs ex H H h h' :=
  ⟨fun b ob q _ _ _ => k b ob q, fun b ob q _ _ _ => ⟨ob.slots, k b ob q⟩, fun _ _ _ n _ => n, fun b ob q _ => ⟨ob, k b ob q⟩, fun _ _ q => q, fun _ _ _ q => q, fun _ ps q => ⟨#[], by rw [q]; simp⟩⟩
theorem Un.refl : Un fs ex H H h h := Un.kept fun _ _ q => q
theorem Un.laid (k : ∀ b u, h.get? b = some u → h'.get? b = some u) (hp : h.objs.size ≤ a) (hn : H a = none) : Un fs ex H (upd H a o) h h' where
  keep := fun b u q _ _ _ => k b u q
  slot := fun b u q _ _ _ => ⟨u.slots, k b u q⟩
  free := fun b u q n _ => by rw [upd_ne (Nat.ne_of_lt (Nat.lt_of_lt_of_le (Heap.lt_size q) hp))]; exact n
  there := fun b u q _ => ⟨u, k b u q⟩
  tups := fun b xs q => by rw [upd_ne (ne_of_none q hn)]; exact q
  frzs := fun b u xs q => by rw [upd_ne (ne_of_none q hn)]; exact q
  tbls := fun b ps q => ⟨#[], by rw [upd_ne (ne_of_none q hn), q]; simp⟩
theorem Un.write (mu : Mut (H x)) (he : e = x ∨ H e = some (.own x)) (k : ∀ b u, b ≠ e → h.get? b = some u → h'.get? b = some u) (heo : ∃ u, h'.get? e = some u) : Un fs ex H (upd H x o) h h' := by
  have hx : ∀ b, H b = none → b ≠ x := fun b n z => by subst z; rw [n] at mu; exact mu
  have hb : ∀ b, H b = none → b ≠ e := fun b n z => by
    subst z
    rcases he with r | r
    · exact hx b n r
    · rw [n] at r; cases r
  have hm : ∀ b u, H b = some u → ¬ Mut (some u) → b ≠ x := fun b u q nm z => by subst z; rw [q] at mu; exact nm mu
  refine ⟨fun b u q n _ _ => k b u (hb b n) q, fun b u q n _ _ => ⟨u.slots, k b u (hb b n) q⟩, fun b u q n _ => by rw [upd_ne (hx b n)]; exact n, fun b u q _ => ?_,
    fun b xs q => by rw [upd_ne (hm b _ q fun z => z)]; exact q, fun b u xs q => by rw [upd_ne (hm b _ q fun z => z)]; exact q, fun b ps q => ⟨#[], by rw [upd_ne (hm b _ q fun z => z), q]; simp⟩⟩
  by_cases hbe : b = e
  · subst hbe; exact heo
  · exact ⟨u, k b u hbe q⟩
theorem Un.mono (u : Un fs ex H H1 h h1) (hs : ∀ b ∈ fs, b ∈ fs') (hx : ∀ b ∈ ex, b ∈ ex') : Un fs' ex' H H1 h h1 :=
  ⟨fun b ob q n hb he => u.keep b ob q n (fun z => hb (hs b z)) fun z => he (hx b z), fun _ _ q n _ he => u.any q n fun z => he (hx _ z), fun b ob q n he => u.free b ob q n fun z => he (hx b z), fun b ob q he => u.there b ob q fun z => he (hx b z), u.tups, u.frzs, u.tbls⟩
end
def trk (h : Heap) (H : Hp) : List Addr := (List.range h.objs.size).filter fun a => (H a).isSome
def hidT (h : Heap) (H : Hp) : Heap := PySem.W.hideAll h (trk h H)
theorem hidT_size (h : Heap) (H : Hp) : (hidT h H).objs.size = h.objs.size := PySem.W.hideAll_size _ _
theorem hidT_get {h : Heap} {H : Hp} {b : Addr} {o : Obj} (e : h.get? b = some o) (n : H b = none) : (hidT h H).get? b = some o :=
  PySem.W.hideAll_get _ e fun hm => by
    have q : (H b).isSome = true := (List.mem_filter.mp hm).2
    rw [n] at q; simp at q
theorem of_hidT {h : Heap} {H : Hp} {b : Addr} {o : Obj} (e : (hidT h H).get? b = some o) : h.get? b = some o ∧ H b = none := by
  have e' : h.get? b = some o := PySem.W.of_hideAll (trk h H) e
  refine ⟨e', ?_⟩
  cases q : H b with
  | none => rfl
  | some x =>
    have hm : b ∈ trk h H := List.mem_filter.mpr ⟨List.mem_range.mpr (Heap.lt_size e'), by simp [q]⟩
    have z : (hidT h H).get? b = none := PySem.W.hideAll_none (trk h H) hm
    rw [z] at e; cases e
def allNews (g h : Heap) (L : Addr) : List (Addr × Obj) := (List.range h.objs.size).filterMap fun a => if a = L ∨ (g.get? a).isSome = true then none else (h.get? a).map fun o => (a, o)
def rest (g h : Heap) (L d : Addr) : List (Addr × Obj) := (allNews g h L).filter fun p => decide (p.1 ≠ d)
end L2
namespace L2
open PySem PySem.Spec PyProof.Rows
structure Mod (K : PySem.W.Frag) (mg : Str → Option Value) (base : Heap) : Prop where
  kin : K.In base
  glob : base.Ns mainGlobals mg
  blt : ∃ mb, base.Ns builtinsNs mb ∧ ∀ x : Str, x ≠ "__name__" → mb x = bootBuiltins x
  nolimit : base.NoLimit
structure Cx where
  prog : Program
  w : World
  K : PySem.W.Frag
  mg : Str → Option Value
  base : Heap
  A : Around
  N : List Str
  s_0 : Shared
  H_0 : Hp
  env : Env
  outer : List Env
  stack : List Env
  ex : List Addr
  fn : Str → Bool
  calm : Bool
  pn : List (Addr × Obj)
  xe : Value → Shared → Prop
def frs (l : List Env) : List Addr := l.filterMap (·.frame)
abbrev Cx.fs (X : Cx) : List Addr := frs X.outer
def Vis (sc : Scope) (x : Str) : Prop := sc.names.lookup x = some .local ∨ sc.names.lookup x = some .cell ∨ sc.names.lookup x = some .free
def Loc (sc : Scope) (x : Str) : Prop := sc.names.lookup x = some .local ∨ sc.names.lookup x = some .cell
def Look (env : Env) (h : Heap) (m : Str → Option Value) (x : Str) (u : Value) : Prop :=
  (env.kindOf x = some .local ∧ m x = some u) ∨ ((env.kindOf x = some .cell ∨ env.kindOf x = some .free) ∧ ∃ c, env.cells.lookup x = some c ∧ h.IsCell c (some u))
structure Cx.Ok (X : Cx) : Prop where
  mod : Mod X.K X.mg X.base
  kind : X.env.scope.kind = .function
  glob : X.env.globals = mainGlobals
  blt : X.env.builtins = builtinsNs
  above : X.s_0.heap.objs.size ≤ X.env.locals
  inj : ∀ x y c, X.env.cells.lookup x = some c → X.env.cells.lookup y = some c → x = y
  has : ∀ x, (X.env.kindOf x = some .cell ∨ X.env.kindOf x = some .free) → ∃ c, X.env.cells.lookup x = some c
  cab : ∀ x c, X.fn x = true → X.env.cells.lookup x = some c → X.s_0.heap.objs.size ≤ c
  hd : X.calm = true → X.A.handled = none
  frames : X.A.frames = some X.stack
  stk : X.stack = X.outer ∨ (X.stack = X.env :: X.outer ∧ X.env.frame = some X.env.locals)
  exf : ∀ b ∈ X.ex, b ≠ X.env.locals ∧ ∀ x c, X.env.cells.lookup x = some c → c ≠ b
  bs : ∀ b o, X.base.get? b = some o → X.s_0.heap.get? b = some o ∧ X.H_0 b = none
  bsz : X.base.objs.size ≤ X.s_0.heap.objs.size
  noex : ∀ b o, X.base.get? b = some o → b ∉ X.ex
  exfs : ∀ b ∈ X.ex, b ∉ X.fs
  funs : X.s_0.heap.FunFrames X.base X.outer
  frf : ∀ b ∈ X.fs, X.H_0 b = none
structure Inv (X : Cx) (pins : List (Addr × Obj)) (σ : List (Option V)) (H : Hp) (s : Shared) : Prop where
  ok : X.Ok
  os : s.os = X.s_0.os
  bare : AllBare s.gens
  base : Un X.fs X.ex X.H_0 H X.s_0.heap s.heap
  loc : ∃ m, s.heap.Ns X.env.locals m ∧ ∀ (i : Nat) (x : Str) (v : V), X.N[i]? = some x → σ[i]? = some (some v) → Vis X.env.scope x → ∃ u, RelV v u ∧ Look X.env s.heap m x u
  cell : ∀ x c, X.env.cells.lookup x = some c → ∃ v, s.heap.IsCell c v
  free : H X.env.locals = none
  freeC : ∀ x c, X.env.cells.lookup x = some c → H c = none
  pin : ∀ p ∈ X.pn ++ pins, s.heap.get? p.1 = some p.2 ∧ H p.1 = none ∧ p.1 ≠ X.env.locals ∧ p.1 ∉ X.fs ∧ ∀ v, p.2.data ≠ .cell v
  hok : HOk X.prog X.w H s.heap
  len : σ.length = X.N.length
section
variable {X : Cx} {pins : List (Addr × Obj)} {σ : List (Option V)} {H H' : Hp} {s : Shared} {h' : Heap}
theorem Cx.Ok.nofr (ok : X.Ok) {b : Addr} {o : Obj} (e : X.base.get? b = some o) : b ∉ X.fs := fun hb => by
  have := (ok.funs.mem hb).1
  rw [e] at this; cases this
theorem Inv.bs (I : Inv X pins σ H s) : ∀ b o, X.base.get? b = some o → s.heap.get? b = some o ∧ H b = none := fun b o e =>
  ⟨I.base.keep b o (I.ok.bs b o e).1 (I.ok.bs b o e).2 (I.ok.nofr e) (I.ok.noex b o e), I.base.free b o (I.ok.bs b o e).1 (I.ok.bs b o e).2 (I.ok.noex b o e)⟩
theorem Inv.bk (I : Inv X pins σ H s) : ∀ b o, X.base.get? b = some o → s.heap.get? b = some o := fun b o e => (I.bs b o e).1
theorem Inv.mod (I : Inv X pins σ H s) : Mod X.K X.mg X.base := I.ok.mod
theorem Inv.kIn (I : Inv X pins σ H s) : X.K.In s.heap := I.ok.mod.kin.keeps I.bk
theorem Inv.nolimit (I : Inv X pins σ H s) : s.heap.NoLimit := I.ok.mod.nolimit.keeps I.bk
theorem Inv.fr (I : Inv X pins σ H s) : ∃ m, Fr X.base X.env.locals s.heap m :=
  let ⟨m, hn, _⟩ := I.loc
  ⟨m, hn, I.bk, Nat.le_trans I.ok.bsz I.ok.above⟩
theorem Inv.lt (I : Inv X pins σ H s) : X.env.locals < s.heap.objs.size := let ⟨_, hn, _⟩ := I.loc; hn.lt
theorem Inv.sz (I : Inv X pins σ H s) : X.s_0.heap.objs.size ≤ s.heap.objs.size := Nat.le_trans I.ok.above (Nat.le_of_lt I.lt)
theorem Inv.nofs (I : Inv X pins σ H s) {a : Addr} (h : s.heap.objs.size ≤ a) : a ∉ X.fs := fun hb => by
  obtain ⟨_, o, ho, _⟩ := I.ok.funs.mem hb
  exact absurd (Nat.lt_of_lt_of_le (Heap.lt_size ho) (Nat.le_trans I.sz h)) (Nat.lt_irrefl _)
theorem Inv.cne (I : Inv X pins σ H s) : ∀ x c, X.env.cells.lookup x = some c → c ≠ X.env.locals := fun x c e z => by
  obtain ⟨v, o, ho, hd⟩ := I.cell x c e
  obtain ⟨m, ⟨o', es, ep, ho', hd', _⟩, _⟩ := I.loc
  rw [z, ho'] at ho; cases ho; rw [hd'] at hd; cases hd
theorem Inv.funs (I : Inv X pins σ H s) : s.heap.FunFrames X.base X.outer := by
  have all : ∀ (l : List Env), (∀ b ∈ frs l, b ∈ X.fs) → X.s_0.heap.FunFrames X.base l → s.heap.FunFrames X.base l := by
    intro l
    induction l with
    | nil => intro _ _; trivial
    | cons env r ih =>
      intro hs hl
      obtain ⟨hk, ⟨L, o, hf, hn, ho, hd⟩, hr⟩ := hl
      have hL : L ∈ X.fs := hs L (by unfold frs; rw [List.filterMap_cons, hf]; exact List.mem_cons_self)
      obtain ⟨sl, e⟩ := I.base.slot L o ho (I.ok.frf L hL) hL fun z => I.ok.exfs L z hL
      exact ⟨hk, ⟨L, _, hf, hn, e, hd⟩, ih (fun b hb => hs b (by unfold frs; rw [List.filterMap_cons, hf]; exact List.mem_cons_of_mem _ hb)) hr⟩
  exact all X.outer (fun _ hb => hb) I.ok.funs
theorem Inv.stack (I : Inv X pins σ H s) : s.heap.FunFrames X.base X.stack := by
  rcases I.ok.stk with e | ⟨e, hf⟩
  · rw [e]; exact I.funs
  · rw [e]
    obtain ⟨m, hn, _⟩ := I.loc
    refine .cons (by rw [I.ok.kind]; decide) hf hn ?_ I.funs
    exact Heap.get?_none_of_le (Nat.le_trans I.ok.bsz I.ok.above)
theorem Inv.stkSub (I : Inv X pins σ H s) : ∀ b ∈ frs X.stack, b ∈ X.env.locals :: X.fs := fun b hb => by
  rcases I.ok.stk with e | ⟨e, hf⟩
  · rw [e] at hb; exact List.mem_cons_of_mem _ hb
  · rw [e] at hb
    unfold frs at hb
    rw [List.filterMap_cons, hf] at hb
    exact hb
theorem Inv.stkFree (I : Inv X pins σ H s) : ∀ b ∈ frs X.stack, H b = none := fun b hb => by
  rcases List.mem_cons.mp (I.stkSub b hb) with e | hb
  · rw [e]; exact I.free
  · obtain ⟨_, o, ho, _⟩ := I.ok.funs.mem hb
    exact I.base.free b o ho (I.ok.frf b hb) fun z => I.ok.exfs b z hb
theorem Inv.step {g' : Array GenState} {t' : Nat} {d' : Drawn} {ch : List Addr} (I : Inv X pins σ H s)
    (hch : ∀ b ∈ ch, (b ∈ X.ex ∨ X.s_0.heap.objs.size ≤ b) ∧ b ≠ X.env.locals ∧ (∀ x c, X.env.cells.lookup x = some c → c ≠ b) ∧ ∀ p ∈ X.pn ++ pins, p.1 ≠ b)
    (keep : ∀ b o, b ≠ X.env.locals → b ∉ X.fs → b ∉ ch → s.heap.get? b = some o → H b = none → h'.get? b = some o)
    (slot : ∀ b o, b ≠ X.env.locals → b ∈ X.fs → b ∉ ch → s.heap.get? b = some o → H b = none → ∃ sl, h'.get? b = some { o with slots := sl }) (free : ∀ b o, b ∉ ch → s.heap.get? b = some o → H b = none → H' b = none)
    (there : ∀ b o, b ∉ ch → s.heap.get? b = some o → ∃ o', h'.get? b = some o')
    (tups : ∀ b xs, H b = some (.tup xs) → H' b = some (.tup xs)) (frzs : ∀ b o u, H b = some (.frz o u) → H' b = some (.frz o u)) (tbls : ∀ b ps, H b = some (.tbl ps) → ∃ more, H' b = some (.tbl (ps ++ more)))
    (ns : ∀ m, s.heap.Ns X.env.locals m → h'.Ns X.env.locals m) (hok : HOk X.prog X.w H' h') (hg : AllBare g') :
    Inv X pins σ H' { s with heap := h', gens := g', drawn := d', toks := t' } := by
  have neL : ∀ b o, X.s_0.heap.get? b = some o → b ≠ X.env.locals := fun b o e => Nat.ne_of_lt (Nat.lt_of_lt_of_le (Heap.lt_size e) I.ok.above)
  have neC : ∀ b o, X.s_0.heap.get? b = some o → b ∉ X.ex → b ∉ ch := fun b o e hx hb => by
    rcases (hch b hb).1 with z | z
    · exact hx z
    · exact absurd (Nat.lt_of_lt_of_le (Heap.lt_size e) z) (Nat.lt_irrefl _)
  have cellK : ∀ x c, X.env.cells.lookup x = some c → ∀ v, s.heap.IsCell c v → h'.IsCell c v := fun x c e v ⟨o, ho, hd⟩ => by
    have nch : c ∉ ch := fun z => (hch c z).2.2.1 x c e rfl
    by_cases hc : c ∈ X.fs
    · obtain ⟨sl, q⟩ := slot c o (I.cne x c e) hc nch ho (I.freeC x c e)
      exact ⟨_, q, hd⟩
    · exact ⟨o, keep c o (I.cne x c e) hc nch ho (I.freeC x c e), hd⟩
  refine ⟨I.ok, I.os, hg, ⟨fun b o e n hb hx => ?_, fun b o e n hb hx => ?_, fun b o e n hx => ?_, fun b o e hx => ?_, fun b xs e => tups b xs (I.base.tups b xs e), fun b o xs e => frzs b o xs (I.base.frzs b o xs e), fun b ps e => ?_⟩, ?_, fun x c e => ?_, ?_, fun x c e => ?_, fun p hp => ?_, hok, I.len⟩
  · exact keep b o (neL b o e) hb (neC b o e hx) (I.base.keep b o e n hb hx) (I.base.free b o e n hx)
  · obtain ⟨sl, e1⟩ := I.base.slot b o e n hb hx
    obtain ⟨sl', e2⟩ := slot b _ (neL b o e) hb (neC b o e hx) e1 (I.base.free b o e n hx)
    exact ⟨sl', e2⟩
  · obtain ⟨o', e1⟩ := I.base.there b o e hx
    exact free b o' (neC b o e hx) e1 (I.base.free b o e n hx)
  · obtain ⟨o', e1⟩ := I.base.there b o e hx
    exact there b o' (neC b o e hx) e1
  · obtain ⟨m1, e1⟩ := I.base.tbls b ps e
    obtain ⟨m2, e2⟩ := tbls b _ e1
    exact ⟨m1 ++ m2, by rw [e2, Array.append_assoc]⟩
  · obtain ⟨m, hn, hl⟩ := I.loc
    refine ⟨m, ns m hn, fun i x v e1 e2 e3 => ?_⟩
    obtain ⟨u, r, l⟩ := hl i x v e1 e2 e3
    refine ⟨u, r, ?_⟩
    rcases l with l | ⟨k, c, e, z⟩
    · exact .inl l
    · exact .inr ⟨k, c, e, cellK x c e _ z⟩
  · obtain ⟨v, z⟩ := I.cell x c e
    exact ⟨v, cellK x c e v z⟩
  · obtain ⟨m, ⟨o, _, _, ho, _⟩, _⟩ := I.loc
    exact free _ o (fun z => (hch _ z).2.1 rfl) ho I.free
  · obtain ⟨v, o, ho, hd⟩ := I.cell x c e
    exact free c o (fun z => (hch c z).2.2.1 x c e rfl) ho (I.freeC x c e)
  · obtain ⟨e, n, ne, nf, d⟩ := I.pin p hp
    have nch : p.1 ∉ ch := fun z => (hch p.1 z).2.2.2 p hp rfl
    exact ⟨keep p.1 p.2 ne nf nch e n, free p.1 p.2 nch e n, ne, nf, d⟩
theorem Inv.un {t' : Nat} (I : Inv X pins σ H s) (u : Un X.fs [] H H' s.heap h') (hok : HOk X.prog X.w H' h') : Inv X pins σ H' { s with heap := h', toks := t' } := by
  obtain ⟨m, ⟨o, es, ep, ho, r⟩, _⟩ := id I.loc
  obtain ⟨sl, hL⟩ := u.any ho I.free (by simp)
  exact I.step (g' := s.gens) (d' := s.drawn) (ch := []) (fun _ z => nomatch z) (fun b o _ hb _ e n => u.keep b o e n hb (by simp)) (fun b o _ hb _ e n => u.slot b o e n hb (by simp)) (fun b o _ e n => u.free b o e n (by simp)) (fun b o _ e => u.there b o e (by simp)) u.tups u.frzs u.tbls (fun m' hm => by
    obtain ⟨o', es', ep', ho', r'⟩ := hm
    rw [ho] at ho'; cases ho'
    exact ⟨_, es', ep', hL, r'⟩) hok I.bare
theorem Inv.call {g' : Array GenState} {t' : Nat} {d' : Drawn} {ch : List Addr} (I : Inv X pins σ H s) (u : Un (frs X.stack) ch H H' s.heap h') (hok : HOk X.prog X.w H' h') (hg : AllBare g')
    (hch : ∀ b ∈ ch, (b ∈ X.ex ∨ X.s_0.heap.objs.size ≤ b) ∧ b ≠ X.env.locals ∧ (∀ x c, X.env.cells.lookup x = some c → c ≠ b) ∧ ∀ p ∈ X.pn ++ pins, p.1 ≠ b) :
    Inv X pins σ H' { s with heap := h', gens := g', drawn := d', toks := t' } := by
  obtain ⟨m, ⟨o, es, ep, ho, r⟩, _⟩ := id I.loc
  obtain ⟨sl, hL⟩ := u.any ho I.free fun z => (hch _ z).2.1 rfl
  exact I.step (ch := ch) hch (fun b o hL hb hc e n => u.keep b o e n (fun z => (List.mem_cons.mp (I.stkSub b z)).elim hL hb) hc) (fun b o _ _ hc e n => u.any e n hc) (fun b o hc e n => u.free b o e n hc) (fun b o hc e => u.there b o e hc) u.tups u.frzs u.tbls (fun m' hm => by
    obtain ⟨o', es', ep', ho', r'⟩ := hm
    rw [ho] at ho'; cases ho'
    exact ⟨_, es', ep', hL, r'⟩) hok hg
theorem Inv.turned {t' : Nat} {it : Addr} (I : Inv X pins σ H s) (k : ∀ b o, b ≠ it → s.heap.get? b = some o → h'.get? b = some o) (hn : H it = none) (hL : it ≠ X.env.locals)
    (h1 : it ∈ X.ex ∨ X.s_0.heap.objs.size ≤ it) (h2 : ∀ x c, X.env.cells.lookup x = some c → c ≠ it) (h3 : ∀ p ∈ X.pn ++ pins, p.1 ≠ it) : Inv X pins σ H { s with heap := h', toks := t' } := by
  have nit : ∀ b u, H b = some u → b ≠ it := fun b u e z => by rw [z, hn] at e; cases e
  refine I.step (g' := s.gens) (d' := s.drawn) (ch := [it]) (fun b hb => ?_) (fun b o _ _ hc e _ => k b o (fun z => hc (by simp [z])) e) (fun b o _ _ hc e _ => ⟨o.slots, k b o (fun z => hc (by simp [z])) e⟩) (fun _ _ _ _ n => n)
    (fun b o hc e => ⟨o, k b o (fun z => hc (by simp [z])) e⟩) (fun _ _ e => e) (fun _ _ _ e => e) (fun b ps e => ⟨#[], by rw [e]; simp⟩) (fun m hm => ?_) (fun b u e => ?_) I.bare
  · have e : b = it := by simpa using hb
    subst e
    exact ⟨h1, hL, h2, h3⟩
  · obtain ⟨o, es, ep, ho, r⟩ := hm
    exact ⟨o, es, ep, k _ o (Ne.symm hL) ho, r⟩
  · refine (I.hok b u e).stay (fun c v hc q => k c v ?_ q) (fun _ q => q) fun _ _ q => q
    rcases hc with z | z
    · rw [z]; exact nit b u e
    · exact nit c _ z
theorem Inv.tok (I : Inv X pins σ H s) (t : Nat) : Inv X pins σ H { s with toks := t } := I.un (h' := s.heap) (t' := t) Un.refl I.hok
theorem Inv.kept {t' : Nat} (I : Inv X pins σ H s) (k : ∀ b u, s.heap.get? b = some u → h'.get? b = some u) : Inv X pins σ H { s with heap := h', toks := t' } := I.un (Un.kept k) (I.hok.kept k)
theorem Inv.laid {a : Addr} {o : HO} {t' : Nat} (I : Inv X pins σ H s) (k : ∀ b u, s.heap.get? b = some u → h'.get? b = some u) (hp : s.heap.objs.size ≤ a) (new : ObjOk X.prog X.w (upd H a o) h' a o) :
    Inv X pins σ (upd H a o) { s with heap := h', toks := t' } := I.un (Un.laid k hp (I.hok.fresh hp)) (I.hok.laid k hp new)
theorem Inv.write {x e : Addr} {o : HO} {t' : Nat} (I : Inv X pins σ H s) (mu : Mut (H x)) (he : e = x ∨ H e = some (.own x)) (k : ∀ b u, b ≠ e → s.heap.get? b = some u → h'.get? b = some u) (heo : ∃ u, h'.get? e = some u)
    (new : ObjOk X.prog X.w (upd H x o) h' x o) : Inv X pins σ (upd H x o) { s with heap := h', toks := t' } := I.un (Un.write mu he k heo) (I.hok.write mu he k heo new)
theorem Inv.weak {σ' : List (Option V)} (I : Inv X pins σ H s) (hl : σ'.length = σ.length) (w : ∀ (i : Nat) v, σ'[i]? = some (some v) → σ[i]? = some (some v)) : Inv X pins σ' H s :=
  ⟨I.ok, I.os, I.bare, I.base, let ⟨m, hn, hl'⟩ := I.loc; ⟨m, hn, fun i x v e1 e2 e3 => hl' i x v e1 (w i v e2) e3⟩, I.cell, I.free, I.freeC, I.pin, I.hok, hl.trans I.len⟩
theorem Inv.pins_of {pins' : List (Addr × Obj)} (I : Inv X pins σ H s) (h : ∀ p ∈ pins', s.heap.get? p.1 = some p.2 ∧ H p.1 = none ∧ p.1 ≠ X.env.locals ∧ p.1 ∉ X.fs ∧ ∀ v, p.2.data ≠ .cell v) : Inv X pins' σ H s :=
  ⟨I.ok, I.os, I.bare, I.base, I.loc, I.cell, I.free, I.freeC, fun p hp => (List.mem_append.mp hp).elim (fun z => I.pin p (List.mem_append_left _ z)) (h p), I.hok, I.len⟩
theorem nodup_ix {N : List Str} (hN : N.Nodup) {i j : Nat} {x : Str} (a : N[i]? = some x) (b : N[j]? = some x) : i = j := by
  obtain ⟨h1, e1⟩ := List.getElem?_eq_some_iff.mp a
  obtain ⟨h2, e2⟩ := List.getElem?_eq_some_iff.mp b
  exact (List.getElem_inj hN).mp (e1.trans e2.symm)
theorem store_ok2 {M : Model} {A : Around} {E : Value → Shared → Prop} {i : Nat} {x : Str} {v : V} {u : Value} {Q : Unit → Shared → Prop} (I : Inv X pins σ H s) (hN : X.N.Nodup) (hi : X.N[i]? = some x) (hx : Loc X.env.scope x) (r : RelV v u)
    (h : ∀ s', Inv X pins (σ.set i (some v)) H s' → (∃ a, Heap.SameBut a s.heap s'.heap ∧ (a = X.env.locals ∨ X.env.cells.lookup x = some a)) → Q () s') (hf : X.fn x = true ∨ X.env.scope.names.lookup x = some .local := by first | exact .inl rfl | exact .inr rfl | assumption) : wpAny M A (storeName X.env x u) Q E s := by
  obtain ⟨m, hn, hl⟩ := id I.loc
  have hcls : (X.env.scope.kind == .class || (X.env.scope.kind == .module && X.env.locals != X.env.globals)) = false := by rw [I.ok.kind]; rfl
  have hiσ : i < σ.length := by rw [I.len]; exact (List.getElem?_eq_some_iff.mp hi).1
  have cne := I.cne
  have tracked : ∀ {a : Addr} {h' : Heap}, (∃ o, s.heap.get? a = some o ∧ H a = none) → Heap.SameBut a s.heap h' → HOk X.prog X.w H h' := fun {a h'} ha hs b ob e => by
    obtain ⟨_, _, hfree⟩ := ha
    refine (I.hok b ob e).stay (fun c w' hc q => (hs.2 c ?_).trans q) (fun _ q => q) fun _ _ q => q
    rintro rfl
    rcases hc with rfl | hc
    · rw [hfree] at e; cases e
    · rw [hfree] at hc; cases hc
  rcases hx with hk | hk
  · refine wpAny_storeName_local hk hn (fun h' hn' hs => ?_) hcls
    obtain ⟨oL, _, _, hoL, _⟩ := id hn
    refine h _ ⟨I.ok, I.os, I.bare, ⟨fun b o e n hb hx => ?_, fun b o e n hb hx => ?_, I.base.free, fun b o e hx => ?_, I.base.tups, I.base.frzs, I.base.tbls⟩, ⟨_, hn', fun j y v' e1 e2 e3 => ?_⟩, fun y c e => ?_, I.free, I.freeC, fun p hp => ?_, tracked ⟨oL, hoL, I.free⟩ hs, by simpa using I.len⟩ ⟨_, hs, .inl rfl⟩
    · exact (hs.2 b (Nat.ne_of_lt (Nat.lt_of_lt_of_le (Heap.lt_size e) I.ok.above))).trans (I.base.keep b o e n hb hx)
    · obtain ⟨sl, e1⟩ := I.base.slot b o e n hb hx
      exact ⟨sl, (hs.2 b (Nat.ne_of_lt (Nat.lt_of_lt_of_le (Heap.lt_size e) I.ok.above))).trans e1⟩
    · obtain ⟨o', e1⟩ := I.base.there b o e hx
      exact ⟨o', (hs.2 b (Nat.ne_of_lt (Nat.lt_of_lt_of_le (Heap.lt_size e) I.ok.above))).trans e1⟩
    · by_cases hj : j = i
      · subst hj
        rw [hi] at e1; cases e1
        rw [List.getElem?_set_self hiσ] at e2
        cases e2
        exact ⟨u, r, .inl ⟨hk, by simp⟩⟩
      · rw [List.getElem?_set_ne (Ne.symm hj)] at e2
        obtain ⟨u', r', q⟩ := hl j y v' e1 e2 e3
        refine ⟨u', r', ?_⟩
        rcases q with ⟨k, e⟩ | ⟨k, c, e, z⟩
        · refine .inl ⟨k, ?_⟩
          have : y ≠ x := fun e => hj (nodup_ix hN e1 (e ▸ hi))
          simp [this, e]
        · exact .inr ⟨k, c, e, z.sameBut hs (cne y c e)⟩
    · obtain ⟨w', z⟩ := I.cell y c e
      exact ⟨w', z.sameBut hs (cne y c e)⟩
    · obtain ⟨e, n, ne, nf, d⟩ := I.pin p hp
      exact ⟨(hs.2 p.1 ne).trans e, n, ne, nf, d⟩
  · have hfn : X.fn x = true := by
      rcases hf with z | z
      · exact z
      · rw [z] at hk; cases hk
    obtain ⟨c, hc⟩ := I.ok.has x (.inl hk)
    obtain ⟨w', z⟩ := I.cell x c hc
    refine wpAny_storeName_cell I.ok.kind hk hc z (fun h' hc' hs => ?_)
    obtain ⟨oc, hoc, hocd⟩ := id z
    refine h { s with heap := h' } ⟨I.ok, I.os, I.bare, ⟨fun b o e n hb hx => ?_, fun b o e n hb hx => ?_, I.base.free, fun b o e hx => ?_, I.base.tups, I.base.frzs, I.base.tbls⟩, ⟨m, hn.sameBut hs (Ne.symm (cne x c hc)), fun j y v' e1 e2 e3 => ?_⟩, fun y c' e => ?_, I.free, I.freeC, fun p hp => ?_, tracked ⟨oc, hoc, I.freeC x c hc⟩ hs, by simpa using I.len⟩ ⟨c, hs, .inr hc⟩
    · exact (hs.2 b (Nat.ne_of_lt (Nat.lt_of_lt_of_le (Heap.lt_size e) (I.ok.cab x c hfn hc)))).trans (I.base.keep b o e n hb hx)
    · obtain ⟨sl, e1⟩ := I.base.slot b o e n hb hx
      exact ⟨sl, (hs.2 b (Nat.ne_of_lt (Nat.lt_of_lt_of_le (Heap.lt_size e) (I.ok.cab x c hfn hc)))).trans e1⟩
    · obtain ⟨o', e1⟩ := I.base.there b o e hx
      exact ⟨o', (hs.2 b (Nat.ne_of_lt (Nat.lt_of_lt_of_le (Heap.lt_size e) (I.ok.cab x c hfn hc)))).trans e1⟩
    · by_cases hj : j = i
      · subst hj
        rw [hi] at e1; cases e1
        rw [List.getElem?_set_self hiσ] at e2
        cases e2
        exact ⟨u, r, .inr ⟨.inl hk, c, hc, hc'⟩⟩
      · rw [List.getElem?_set_ne (Ne.symm hj)] at e2
        obtain ⟨u', r', q⟩ := hl j y v' e1 e2 e3
        refine ⟨u', r', ?_⟩
        rcases q with q | ⟨k, c', e, z'⟩
        · exact .inl q
        · refine .inr ⟨k, c', e, z'.sameBut hs ?_⟩
          rintro rfl
          exact hj (nodup_ix hN e1 (I.ok.inj _ _ _ e hc ▸ hi))
    · by_cases hcc : c' = c
      · subst hcc; exact ⟨_, hc'⟩
      · obtain ⟨w2, z2⟩ := I.cell y c' e
        exact ⟨w2, z2.sameBut hs hcc⟩
    · obtain ⟨e, n, ne, nf, d⟩ := I.pin p hp
      refine ⟨(hs.2 p.1 ?_).trans e, n, ne, nf, d⟩
      intro q
      rw [q, hoc] at e
      have q' : oc = p.2 := Option.some.inj e
      exact d w' (by rw [← q']; exact hocd)
theorem store_ok {M : Model} {A : Around} {E : Value → Shared → Prop} {i : Nat} {x : Str} {v : V} {u : Value} {Q : Unit → Shared → Prop} (I : Inv X pins σ H s) (hN : X.N.Nodup) (hi : X.N[i]? = some x) (hx : Loc X.env.scope x) (r : RelV v u)
    (h : ∀ s', Inv X pins (σ.set i (some v)) H s' → Q () s') (hf : X.fn x = true ∨ X.env.scope.names.lookup x = some .local := by first | exact .inl rfl | exact .inr rfl | assumption) : wpAny M A (storeName X.env x u) Q E s :=
  store_ok2 I hN hi hx r (fun s' I' _ => h s' I') hf
theorem Inv.call' {s' : Shared} {ch : List Addr} (I : Inv X pins σ H s) (ho : s'.os = s.os) (u : Un (frs X.stack) ch H H' s.heap s'.heap) (hok : HOk X.prog X.w H' s'.heap) (hg : AllBare s'.gens)
    (hch : ∀ b ∈ ch, (b ∈ X.ex ∨ X.s_0.heap.objs.size ≤ b) ∧ b ≠ X.env.locals ∧ (∀ x c, X.env.cells.lookup x = some c → c ≠ b) ∧ ∀ p ∈ X.pn ++ pins, p.1 ≠ b) : Inv X pins σ H' s' := by
  obtain ⟨h', g', d', t', o'⟩ := s'
  have e : o' = s.os := ho
  subst e
  exact I.call (g' := g') (t' := t') (d' := d') u hok hg hch
end
abbrev XK := Value → Option Addr → Hp → Prop
abbrev St := List (Option V)
abbrev VK := V → Hp → Prop
abbrev TE := St → Hp → VK → Prop
abbrev TT := St → Hp → (Bool → Hp → Prop) → Prop
abbrev TA := St → Hp → (List V → Hp → Prop) → Prop
structure Ends where
  nx : St → Hp → Prop
  rt : VK
  bk : St → Hp → Prop := fun _ _ => False
  ct : St → Hp → Prop := fun _ _ => False
abbrev TS := Ends → St → Hp → Prop
def EP (X : Cx) (pins : List (Addr × Obj)) (σ : St) (Q : VK) (u : Value) (s' : Shared) : Prop := ∃ v H', Inv X pins σ H' s' ∧ RelV v u ∧ Q v H'
def TP (X : Cx) (pins : List (Addr × Obj)) (σ : St) (Q : Bool → Hp → Prop) (b : Bool) (s' : Shared) : Prop := ∃ H', Inv X pins σ H' s' ∧ Q b H'
def AP (X : Cx) (pins : List (Addr × Obj)) (σ : St) (Q : List V → Hp → Prop) (us : List Value) (s' : Shared) : Prop := ∃ vs H', Inv X pins σ H' s' ∧ Vals vs us ∧ Q vs H'
def SP (X : Cx) (pins : List (Addr × Obj)) (D : Ends) (f : Flow) (s' : Shared) : Prop :=
  match f with
  | .next => ∃ σ' H', Inv X pins σ' H' s' ∧ D.nx σ' H'
  | .brk => ∃ σ' H', Inv X pins σ' H' s' ∧ D.bk σ' H'
  | .cont => ∃ σ' H', Inv X pins σ' H' s' ∧ D.ct σ' H'
  | .ret u => ∃ v σ' H', Inv X pins σ' H' s' ∧ RelV v u ∧ D.rt v H'
def PE (X : Cx) (e : Expr) (t : TE) : Prop :=
  ∀ (pins : List (Addr × Obj)) (s : Shared) (σ : St) (H : Hp) (Q : VK), Inv X pins σ H s → t σ H Q → wpAny (model X.prog X.w) X.A (eval e X.env) (EP X pins σ Q) X.xe s
def PT (X : Cx) (e : Expr) (t : TT) : Prop :=
  ∀ (pins : List (Addr × Obj)) (s : Shared) (σ : St) (H : Hp) (Q : Bool → Hp → Prop), Inv X pins σ H s → t σ H Q → wpAny (model X.prog X.w) X.A (isTrue e X.env (eval e X.env)) (TP X pins σ Q) X.xe s
def PW (X : Cx) (e : Expr) (t : TT) : Prop :=
  ∀ (whole : Sem Value) (pins : List (Addr × Obj)) (s : Shared) (σ : St) (H : Hp) (Q : Bool → Hp → Prop), Inv X pins σ H s → t σ H Q → wpAny (model X.prog X.w) X.A (isTrue e X.env whole) (TP X pins σ Q) X.xe s
theorem PW.pt {X : Cx} {e : Expr} {t : TT} (h : PW X e t) : PT X e t := h _
def PA (X : Cx) (es : List Expr) (t : TA) : Prop :=
  ∀ (pos : Pos) (pins : List (Addr × Obj)) (s : Shared) (σ : St) (H : Hp) (Q : List V → Hp → Prop), Inv X pins σ H s → t σ H Q → wpAny (model X.prog X.w) X.A (spliced (backTo pos (starEach es X.env))) (AP X pins σ Q) X.xe s
def PS (X : Cx) (st : Stmt) (t : TS) : Prop :=
  ∀ (pins : List (Addr × Obj)) (s : Shared) (σ : St) (H : Hp) (D : Ends), Inv X pins σ H s → t D σ H → wpAny (model X.prog X.w) X.A (exec st X.env) (SP X pins D) X.xe s
def PSs (X : Cx) (st : List Stmt) (t : TS) : Prop :=
  ∀ (pins : List (Addr × Obj)) (s : Shared) (σ : St) (H : Hp) (D : Ends), Inv X pins σ H s → t D σ H → wpAny (model X.prog X.w) X.A (execs st X.env) (SP X pins D) X.xe s
theorem thn {α : Type} {t : Sem α} {Q Q' : α → Shared → Prop} {M : Model} {A : Around} {E : Value → Shared → Prop} {s : Shared} (h : wpAny M A t Q E s) (hQ : ∀ a s, Q a s → Q' a s) : wpAny M A t Q' E s := wpAny_mono h hQ fun _ _ x => x
end L2
namespace L2
open PySem PySem.Spec PyProof.Rows
section
variable {X : Cx}
theorem bin {a b : Expr} {ta tb : TE} (ha : PE X a ta) (hb : PE X b tb) {pins : List (Addr × Obj)} {s : Shared} {σ : St} {H : Hp} {R : V → V → Hp → Prop} (I : Inv X pins σ H s) (h : ta σ H fun x H1 => tb σ H1 fun y H2 => R x y H2)
    {α : Type} {Q : α → Shared → Prop} {f : Value → Value → Sem α}
    (hf : ∀ v u s2 x y H2, Inv X pins σ H2 s2 → RelV x v → RelV y u → R x y H2 → wpAny (model X.prog X.w) X.A (f v u) Q X.xe s2) :
    wpAny (model X.prog X.w) X.A (eval a X.env) (fun v s₁ => wpAny (model X.prog X.w) X.A (eval b X.env) (fun u s₂ => wpAny (model X.prog X.w) X.A (f v u) Q X.xe s₂) X.xe s₁) X.xe s := by
  refine thn (ha pins s σ H _ I h) fun v s1 ⟨x, H1, I1, r1, q1⟩ => ?_
  refine thn (hb pins s1 σ H1 _ I1 q1) fun u s2 ⟨y, H2, I2, r2, q2⟩ => ?_
  exact hf v u s2 x y H2 I2 r1 r2 q2
def tVar (i : Nat) : TE := fun σ H Q => ∃ v, σ[i]? = some (some v) ∧ Q v H
def tC (v : V) : TE := fun _ H Q => Q v H
theorem pe_var {i : Nat} {x : Str} {pos : Pos} (hN : X.N[i]? = some x) (hv : Vis X.env.scope x) (hd : (x == ("__debug__" : Str)) = false := by decide) (hcd : (x == ("__classdict__" : Str)) = false := by decide) : PE X (.Name x pos) (tVar i) := by
  intro pins s σ H Q I h
  obtain ⟨v, e, h⟩ := h
  obtain ⟨m, hn, hl⟩ := I.loc
  obtain ⟨u, r, l⟩ := hl i x v hN e hv
  have fin : EP X pins σ Q u s := ⟨v, H, I, r, h⟩
  rcases l with ⟨hk, hm⟩ | ⟨hk, c, hc, hcell⟩
  · exact wpAny_Name (wpAny_loadName_local I.ok.kind hk hn hm fin) hd
  · rcases hk with hk | hk
    · exact wpAny_Name (wpAny_loadName_cell I.ok.kind hk hc hcell fin) hd
    · exact wpAny_Name (wpAny_loadName_free I.ok.kind hk hc hcell fin hcd) hd
theorem pe_int {i j pos} : PE X (.Constant (.int i) j pos) (tC (.int i)) := fun _ _ _ H _ I h => wpAny_Constant_int ⟨.int i, H, I.tok _, ⟨_, rfl⟩, h⟩
theorem pe_bl {b j pos} : PE X (.Constant (.bool b) j pos) (tC (.bl b)) := fun _ _ _ H _ I h => Constant_bool ⟨.bl b, H, I, rfl, h⟩
theorem pe_non {j pos} : PE X (.Constant .none j pos) (tC .non) := fun _ _ _ H _ I h => Constant_none ⟨.non, H, I, rfl, h⟩
theorem pe_str {x j pos} : PE X (.Constant (.str x) j pos) (tC (.str x)) := fun _ _ _ H _ I h => Calls.Constant_str ⟨.str x, H, I.tok _, ⟨_, rfl⟩, h⟩
def Gl (X : Cx) (x : Str) : Prop := X.env.kindOf x = some .globalImplicit
theorem ld_glob {E : Value → Shared → Prop} {pins : List (Addr × Obj)} {s : Shared} {σ : St} {H : Hp} {x : Str} {u : Value} {pos : Pos} {Q : Value → Shared → Prop} (I : Inv X pins σ H s) (hg : Gl X x) (hm : X.mg x = some u) (h : Q u s)
    (hd : (x == ("__debug__" : Str)) = false := by decide) : wpAny (model X.prog X.w) X.A (eval (.Name x pos) X.env) Q E s :=
  Calls.Name_function_global I.ok.kind hg (Calls.loadGlobal_global (by rw [I.ok.glob]; exact I.mod.glob.keeps I.bk) hm h) hd
theorem ld_blt {E : Value → Shared → Prop} {pins : List (Addr × Obj)} {s : Shared} {σ : St} {H : Hp} {x : Str} {u : Value} {pos : Pos} {Q : Value → Shared → Prop} (I : Inv X pins σ H s) (hg : Gl X x) (hm : X.mg x = none) (hv : bootBuiltins x = some u) (h : Q u s)
    (hn : x ≠ "__name__" := by decide) (hd : (x == ("__debug__" : Str)) = false := by decide) : wpAny (model X.prog X.w) X.A (eval (.Name x pos) X.env) Q E s := by
  obtain ⟨mb, h1, h2⟩ := I.mod.blt
  exact Calls.Name_function_global I.ok.kind hg (Calls.loadGlobal_builtin (by rw [I.ok.glob]; exact I.mod.glob.keeps I.bk) hm (by rw [I.ok.blt]; exact h1.keeps I.bk) ((h2 x hn).trans hv) h) hd
theorem pe_glob {x : Str} {v : V} {u : Value} {pos : Pos} (hg : Gl X x) (hm : X.mg x = some u) (r : RelV v u) (hd : (x == ("__debug__" : Str)) = false := by decide) : PE X (.Name x pos) (tC v) :=
  fun _ _ _ H _ I h => ld_glob I hg hm ⟨v, H, I, r, h⟩ hd
theorem pe_bltn {x : Str} {v : V} {u : Value} {pos : Pos} (hg : Gl X x) (hm : X.mg x = none) (hv : bootBuiltins x = some u) (r : RelV v u) (hn : x ≠ "__name__" := by decide) (hd : (x == ("__debug__" : Str)) = false := by decide) : PE X (.Name x pos) (tC v) :=
  fun _ _ _ H _ I h => ld_blt I hg hm hv ⟨v, H, I, r, h⟩ hn hd
variable {a b : Expr} {ta tb : TE} {pos : Pos}
def PC (X : Cx) (op : CmpOp) (a b : Expr) (t : TE) : Prop :=
  ∀ (pins : List (Addr × Obj)) (s : Shared) (σ : St) (H : Hp) (Q : VK), Inv X pins σ H s → t σ H Q →
    wpAny (model X.prog X.w) X.A (eval a X.env) (fun v s₁ => wpAny (model X.prog X.w) X.A (eval b X.env) (fun u s₂ => wpAny (model X.prog X.w) X.A (compareOp op v u) (EP X pins σ Q) X.xe s₂) X.xe s₁) X.xe s
theorem nobehind (b : Expr) {op : CmpOp} (h : op ≠ .In) (h2 : op ≠ .NotIn) : behindInMarks op b = false := by
  have e1 : (op == CmpOp.In) = false := by cases op <;> first | rfl | exact absurd rfl h
  have e2 : (op == CmpOp.NotIn) = false := by cases op <;> first | rfl | exact absurd rfl h2
  cases b <;> simp [behindInMarks, e1, e2]
def tB (t : TE) : TT := fun σ H Q => t σ H fun x H1 => ∃ c, x = .bl c ∧ Q c H1
theorem pt_cmp {op : CmpOp} {t : TE} (h : PC X op a b t) (h1 : behindInMarks op b = false := by first | exact nobehind _ (by decide) (by decide) | rfl) : PT X (.Compare a [op] [b] pos) (tB t) := by
  intro pins s σ H Q I hw
  refine wpAny_isTrue_Compare1 (thn (h pins s σ H _ I hw) fun v s1 h1 => thn h1 fun u s2 h2 => thn h2 fun c s3 ⟨x, H1, I1, r1, q1⟩ => ?_) h1
  obtain ⟨d, rfl, q⟩ := q1
  cases r1
  exact wpAny_truthy_bool ⟨H1, I1, q⟩
theorem pt_val {e : Expr} {t : TE} (h : PE X e t) (he : ∀ whole, isTrue e X.env whole = (do let v ← whole; standAt e.pos; holding [v] (truthy v)) := by intro _; rfl) : PT X e (tB t) := by
  intro pins s σ H Q I hw
  refine isTrue_plain (thn (h pins s σ H _ I hw) fun v s1 ⟨x, H1, I1, r1, q1⟩ => ?_) (he _)
  obtain ⟨d, rfl, q⟩ := q1
  cases r1
  exact wpAny_truthy_bool ⟨H1, I1, q⟩
variable {tA tB' : TT} {rest : List Expr}
def tAnd (t u : TT) : TT := fun σ H Q => t σ H fun c H1 => if c = true then u σ H1 Q else Q false H1
def tOr (t u : TT) : TT := fun σ H Q => t σ H fun c H1 => if c = true then Q true H1 else u σ H1 Q
def tNot (t : TT) : TT := fun σ H Q => t σ H fun c H1 => Q (!c) H1
theorem pw_and1 (ha : PT X a tA) : PW X (.BoolOp .And [a] pos) tA := by
  intro wh pins s σ H Q I h
  refine isTrue_and (thn (ha pins s σ H Q I h) fun c s1 e => ?_)
  cases c with
  | true => exact isTrue_and_nil e
  | false => exact e
theorem pw_or1 (ha : PT X a tA) : PW X (.BoolOp .Or [a] pos) tA := by
  intro wh pins s σ H Q I h
  refine isTrue_or (thn (ha pins s σ H Q I h) fun c s1 e => ?_)
  cases c with
  | false => exact isTrue_or_nil e
  | true => exact e
theorem pw_and (ha : PT X a tA) (hb : PW X (.BoolOp .And (b :: rest) pos) tB') : PW X (.BoolOp .And (a :: b :: rest) pos) (tAnd tA tB') := by
  intro wh pins s σ H Q I h
  refine isTrue_and (thn (ha pins s σ H _ I h) fun c s1 ⟨H1, I1, q1⟩ => ?_)
  cases c with
  | true => exact hb wh pins s1 σ H1 Q I1 q1
  | false => exact ⟨H1, I1, q1⟩
theorem pw_or (ha : PT X a tA) (hb : PW X (.BoolOp .Or (b :: rest) pos) tB') : PW X (.BoolOp .Or (a :: b :: rest) pos) (tOr tA tB') := by
  intro wh pins s σ H Q I h
  refine isTrue_or (thn (ha pins s σ H _ I h) fun c s1 ⟨H1, I1, q1⟩ => ?_)
  cases c with
  | true => exact ⟨H1, I1, q1⟩
  | false => exact hb wh pins s1 σ H1 Q I1 q1
theorem pt_not (ha : PT X a tA) : PT X (.UnaryOp .Not a pos) (tNot tA) := by
  intro pins s σ H Q I h
  exact isTrue_not (ha pins s σ H (fun c H1 => Q (!c) H1) I h)
def tAndV (ta tb : TE) : TE := fun σ H Q => ta σ H fun x H1 => ∃ c, x = .bl c ∧ if c = true then tb σ H1 Q else Q (.bl false) H1
def tOrV (ta tb : TE) : TE := fun σ H Q => ta σ H fun x H1 => ∃ c, x = .bl c ∧ if c = true then Q (.bl true) H1 else tb σ H1 Q
theorem pe_one {op} {t : TE} (h : PE X a t) : PE X (.BoolOp op [a] pos) t := fun pins s σ H Q I hw => BoolOp_one (h pins s σ H Q I hw)
theorem pe_and (ha : PE X a ta) (hb : PE X (.BoolOp .And (b :: rest) pos) tb) : PE X (.BoolOp .And (a :: b :: rest) pos) (tAndV ta tb) := by
  intro pins s σ H Q I h
  refine BoolOp_and (thn (ha pins s σ H _ I h) fun v s1 ⟨x, H1, I1, r1, q1⟩ => ?_)
  obtain ⟨c, rfl, q1⟩ := q1
  cases r1
  refine wpAny_truthy_bool ?_
  cases c with
  | true => exact hb pins s1 σ H1 Q I1 q1
  | false => exact ⟨.bl false, H1, I1, rfl, q1⟩
theorem pe_or (ha : PE X a ta) (hb : PE X (.BoolOp .Or (b :: rest) pos) tb) : PE X (.BoolOp .Or (a :: b :: rest) pos) (tOrV ta tb) := by
  intro pins s σ H Q I h
  refine BoolOp_or (thn (ha pins s σ H _ I h) fun v s1 ⟨x, H1, I1, r1, q1⟩ => ?_)
  obtain ⟨c, rfl, q1⟩ := q1
  cases r1
  refine wpAny_truthy_bool ?_
  cases c with
  | false => exact hb pins s1 σ H1 Q I1 q1
  | true => exact ⟨.bl true, H1, I1, rfl, q1⟩
def tIf (t : TT) (ta tb : TE) : TE := fun σ H Q => t σ H fun c H1 => if c = true then ta σ H1 Q else tb σ H1 Q
theorem pe_ifExp {c : Expr} (hc : PT X c tA) (ha : PE X a ta) (hb : PE X b tb) : PE X (.IfExp c a b pos) (tIf tA ta tb) := by
  intro pins s σ H Q I h
  refine wpAny_IfExp (thn (hc pins s σ H _ I h) fun d s1 ⟨H1, I1, q1⟩ => ?_)
  cases d with
  | true => exact ha pins s1 σ H1 Q I1 q1
  | false => exact hb pins s1 σ H1 Q I1 q1
end
end L2
namespace L2
open PySem PySem.Spec PyProof.Rows
def SqL (K : PySem.W.Frag) (H : Hp) (a : Addr) (xs : List V) : Prop :=
  Rd H a (.lst xs) ∨
    ∃ (o : Obj) (its : Array Value) (n : Nat), K.lookup a = some o ∧ o.cls = .type "list" ∧ o.dict = none ∧ o.data = .seq its n ∧ its.size ≤ sizeLine ∧ Vals xs its.toList
def SqT (K : PySem.W.Frag) (H : Hp) (a : Addr) (xs : List V) : Prop :=
  Rd H a (.tup xs) ∨
    ∃ (o : Obj) (its : Array Value) (n : Nat), K.lookup a = some o ∧ o.cls = .type "tuple" ∧ o.data = .seq its n ∧ its.size ≤ sizeLine ∧ Vals xs its.toList
def absV : Value → Option V
  | .none => some .non
  | .bool b => some (.bl b)
  | .int i _ => some (.int i)
  | .str x _ => some (.str x)
  | .bytes b _ => some (.byt b)
  | .float b _ => some (.flt b)
  | .ref a => some (.ref a)
  | .type n => some (.ty n)
  | _ => none
theorem RelV.abs {x : V} {u : Value} (r : RelV x u) : absV u = some x := by
  cases x with
  | non => cases r; rfl
  | bl _ => cases r; rfl
  | int _ => obtain ⟨t, rfl⟩ := r; rfl
  | str _ => obtain ⟨t, rfl⟩ := r; rfl
  | byt _ => obtain ⟨t, rfl⟩ := r; rfl
  | flt _ => obtain ⟨t, rfl⟩ := r; rfl
  | ref _ => cases r; rfl
  | ty _ => cases r; rfl
theorem RelV.inj {x y : V} {u : Value} (r : RelV x u) (q : RelV y u) : x = y := Option.some.inj (r.abs.symm.trans q.abs)
theorem Vals.inj : ∀ {xs ys : List V} {us : List Value}, Vals xs us → Vals ys us → xs = ys
  | _, _, _, .nil, .nil => rfl
  | _, _, _, .cons r t, .cons r' t' => by rw [r.inj r', Vals.inj t t']
section
variable {X : Cx} {pins : List (Addr × Obj)} {σ : St} {H : Hp} {s : Shared} {a : Addr} {xs ys : List V}
theorem SqL.of {K : PySem.W.Frag} (h : H a = some (.lst xs)) : SqL K H a xs := .inl (.inl h)
theorem SqT.of {K : PySem.W.Frag} (h : H a = some (.tup xs)) : SqT K H a xs := .inl (.inl h)
theorem Inv.list (I : Inv X pins σ H s) (h : SqL X.K H a xs) : ∃ its : List Value, Vals xs its ∧ PlainL s.heap a its.toArray ∧ xs.length ≤ sizeLine := by
  rcases h with h | ⟨o, its, n, hk, hc, hd, hs, hz, r⟩
  · obtain ⟨z, its, n, r, e⟩ := h.ok I.hok
    exact ⟨its, r, ⟨_, n, e, rfl, rfl, rfl⟩, z⟩
  · refine ⟨its.toList, r, ⟨o, n, I.kIn a o hk, hc, hd, by simpa using hs⟩, ?_⟩
    have e := r.length
    simp only [Array.length_toList] at e
    omega
theorem Inv.tuple (I : Inv X pins σ H s) (h : SqT X.K H a xs) : ∃ its : List Value, Vals xs its ∧ IsTup s.heap a its.toArray ∧ xs.length ≤ sizeLine := by
  rcases h with h | ⟨o, its, n, hk, hc, hs, hz, r⟩
  · obtain ⟨z, its, r, p⟩ := h.ok I.hok
    exact ⟨its, r, p, z⟩
  · refine ⟨its.toList, r, ⟨o, I.kIn a o hk, hc, n, by simpa using hs⟩, ?_⟩
    have e := r.length
    simp only [Array.length_toList] at e
    omega
theorem Inv.list_inj (I : Inv X pins σ H s) (h : SqL X.K H a xs) (h' : SqL X.K H a ys) : xs = ys := by
  obtain ⟨its, r, ⟨o, n, e, _, _, d⟩, _⟩ := I.list h
  obtain ⟨its', r', ⟨o', n', e', _, _, d'⟩, _⟩ := I.list h'
  rw [e] at e'; cases e'
  rw [d] at d'
  injection d' with d1 _
  have : its = its' := by simpa using congrArg Array.toList d1
  subst this
  exact r.inj r'
theorem Inv.tuple_inj (I : Inv X pins σ H s) (h : SqT X.K H a xs) (h' : SqT X.K H a ys) : xs = ys := by
  obtain ⟨its, r, ⟨o, e, _, n, d⟩, _⟩ := I.tuple h
  obtain ⟨its', r', ⟨o', e', _, n', d'⟩, _⟩ := I.tuple h'
  rw [e] at e'; cases e'
  rw [d] at d'
  injection d' with d1 _
  have : its = its' := by simpa using congrArg Array.toList d1
  subst this
  exact r.inj r'
end
abbrev Cx.wish (X : Cx) (E : Value → Shared → Prop) : Cx := { X with xe := E }
abbrev Cx.nox (X : Cx) : Cx := X.wish fun _ _ => False
theorem Cx.Ok.wish {X : Cx} (ok : X.Ok) (E : Value → Shared → Prop) : (X.wish E).Ok :=
  ⟨ok.mod, ok.kind, ok.glob, ok.blt, ok.above, ok.inj, ok.has, ok.cab, ok.hd, ok.frames, ok.stk, ok.exf, ok.bs, ok.bsz, ok.noex, ok.exfs, ok.funs, ok.frf⟩
theorem Cx.Ok.unwish {X : Cx} {E : Value → Shared → Prop} (ok : (X.wish E).Ok) : X.Ok :=
  ⟨ok.mod, ok.kind, ok.glob, ok.blt, ok.above, ok.inj, ok.has, ok.cab, ok.hd, ok.frames, ok.stk, ok.exf, ok.bs, ok.bsz, ok.noex, ok.exfs, ok.funs, ok.frf⟩
section
variable {X : Cx} {pins : List (Addr × Obj)} {σ : St} {H : Hp} {s : Shared} {E : Value → Shared → Prop}
theorem Inv.wish (I : Inv X pins σ H s) (E : Value → Shared → Prop) : Inv (X.wish E) pins σ H s := ⟨I.ok.wish E, I.os, I.bare, I.base, I.loc, I.cell, I.free, I.freeC, I.pin, I.hok, I.len⟩
theorem Inv.unwish (I : Inv (X.wish E) pins σ H s) : Inv X pins σ H s := ⟨I.ok.unwish, I.os, I.bare, I.base, I.loc, I.cell, I.free, I.freeC, I.pin, I.hok, I.len⟩
theorem SP.unwish {D : Ends} {f : Flow} {s' : Shared} (h : SP (X.wish E) pins D f s') : SP X pins D f s' := by
  cases f with
  | next => obtain ⟨σ', H', I, q⟩ := h; exact ⟨σ', H', I.unwish, q⟩
  | brk => obtain ⟨σ', H', I, q⟩ := h; exact ⟨σ', H', I.unwish, q⟩
  | cont => obtain ⟨σ', H', I, q⟩ := h; exact ⟨σ', H', I.unwish, q⟩
  | ret u => obtain ⟨v, σ', H', I, r, q⟩ := h; exact ⟨v, σ', H', I.unwish, r, q⟩
theorem PE.nox {e : Expr} {t : TE} (h : PE X.nox e t) : PE X e t := fun pins s σ H Q I hw =>
  wpAny_mono (h pins s σ H Q (I.wish _) hw) (fun _ _ ⟨v, H', I', r, q⟩ => ⟨v, H', I'.unwish, r, q⟩) fun _ _ z => False.elim z
theorem PT.nox {e : Expr} {t : TT} (h : PT X.nox e t) : PT X e t := fun pins s σ H Q I hw =>
  wpAny_mono (h pins s σ H Q (I.wish _) hw) (fun _ _ ⟨H', I', q⟩ => ⟨H', I'.unwish, q⟩) fun _ _ z => False.elim z
theorem PSs.nox {st : List Stmt} {t : TS} (h : PSs X.nox st t) : PSs X st t := fun pins s σ H D I hw =>
  wpAny_mono (h pins s σ H D (I.wish _) hw) (fun _ _ q => q.unwish) fun _ _ z => False.elim z
end
section
variable {X : Cx} {st : Stmt} {rest : List Stmt} {t u : TS} {e : Expr} {te : TE} {pos : Pos}
def tNext : TS := fun D σ H => D.nx σ H
def tSeq (t u : TS) : TS := fun D σ H => t { D with nx := u D } σ H
theorem pss_nil : PSs X [] tNext := fun _ _ σ H _ I h => wpAny_execs_nil ⟨σ, H, I, h⟩
theorem pss_cons (h1 : PS X st t) (h2 : PSs X rest u) : PSs X (st :: rest) (tSeq t u) := by
  intro pins s σ H D I h
  refine wpAny_execs_cons (thn (h1 pins s σ H { D with nx := u D } I h) fun f s1 q => ?_)
  cases f with
  | next =>
    obtain ⟨σ', H', I', q⟩ := q
    exact h2 pins s1 σ' H' D I' q
  | ret v => exact q
  | brk => exact q
  | cont => exact q
theorem pss_one (h1 : PS X st t) : PSs X [st] t := by
  intro pins s σ H D I h
  refine wpAny_execs_cons (thn (h1 pins s σ H D I h) fun f s1 q => ?_)
  cases f with
  | next => exact wpAny_execs_nil q
  | ret v => exact q
  | brk => exact q
  | cont => exact q
theorem Inv.quiet {pins : List (Addr × Obj)} {σ : St} {H : Hp} {s : Shared} (I : Inv X pins σ H s) : interactive X.env = false := by simp [interactive, I.ok.kind]
def tDrop (te : TE) : TS := fun D σ H => te σ H fun _ H1 => D.nx σ H1
theorem ps_expr (he : PE X e te) (hs : swapsWith e none pos.line X.env = pure false := by rfl) : PS X (.Expr e pos) (tDrop te) := by
  intro pins s σ H D I h
  exact wpAny_Expr_any (thn (he pins s σ H _ I h) fun v s1 ⟨x, H1, I1, r1, q1⟩ => ⟨σ, H1, I1, q1⟩) I.quiet hs
def tRet (te : TE) : TS := fun D σ H => te σ H D.rt
theorem ps_ret (he : PE X e te) : PS X (.Return (some e) pos) (tRet te) := by
  intro pins s σ H D I h
  exact wpAny_Return_some (thn (he pins s σ H _ I h) fun v s1 ⟨x, H1, I1, r1, q1⟩ => ⟨x, σ, H1, I1, r1, q1⟩)
def tIfS (c : TT) (t u : TS) : TS := fun D σ H => c σ H fun b H1 => if b = true then t D σ H1 else u D σ H1
theorem ps_if {c : Expr} {a b : List Stmt} {tc : TT} (hc : PT X c tc) (ha : PSs X a t) (hb : PSs X b u) : PS X (.If c a b pos) (tIfS tc t u) := by
  intro pins s σ H D I h
  refine wpAny_If (thn (hc pins s σ H _ I h) fun d s1 ⟨H1, I1, q1⟩ => ?_)
  cases d with
  | true => exact ha pins s1 σ H1 D I1 q1
  | false => exact hb pins s1 σ H1 D I1 q1
def tNever : TS := fun _ _ _ => False
theorem pss_never {sts : List Stmt} : PSs X sts tNever := fun _ _ _ _ _ _ h => h.elim
end
abbrev TG := V → St → Hp → (St → Hp → Prop) → Prop
abbrev TGs := List V → St → Hp → (St → Hp → Prop) → Prop
def PG (X : Cx) (target : Expr) (t : TG) : Prop :=
  ∀ (pins : List (Addr × Obj)) (s : Shared) (σ : St) (H : Hp) (v : V) (u : Value) (Q : St → Hp → Prop), Inv X pins σ H s → RelV v u → t v σ H Q →
    wpAny (model X.prog X.w) X.A (assign target X.env u) (fun _ s' => ∃ σ' H', Inv X pins σ' H' s' ∧ Q σ' H') X.xe s
def PGs (X : Cx) (ts : List Expr) (t : TGs) : Prop :=
  ∀ (pins : List (Addr × Obj)) (s : Shared) (σ : St) (H : Hp) (vs : List V) (us : List Value) (Q : St → Hp → Prop), Inv X pins σ H s → Vals vs us → t vs σ H Q →
    wpAny (model X.prog X.w) X.A (assignInOrder ((assignEach ts X.env).map (·.2)) us) (fun _ s' => ∃ σ' H', Inv X pins σ' H' s' ∧ Q σ' H') X.xe s
abbrev TSet := V → V → V → Hp → (Hp → Prop) → Prop
def PSet (X : Cx) (t : TSet) : Prop :=
  ∀ (pins : List (Addr × Obj)) (s : Shared) (σ : St) (H : Hp) (o i v : V) (ov iv u : Value) (Q : Hp → Prop), Inv X pins σ H s → RelV o ov → RelV i iv → RelV v u → t o i v H Q →
    wpAny (model X.prog X.w) X.A (setItem ov iv u) (fun _ s' => ∃ H', Inv X pins σ H' s' ∧ Q H') X.xe s
abbrev TIp := V → V → Hp → VK → Prop
def PIp (X : Cx) (op : Operator) (t : TIp) : Prop :=
  ∀ (pins : List (Addr × Obj)) (s : Shared) (σ : St) (H : Hp) (x y : V) (v u : Value) (Q : VK), Inv X pins σ H s → RelV x v → RelV y u → t x y H Q →
    wpAny (model X.prog X.w) X.A (inplaceOp op v u) (EP X pins σ Q) X.xe s
section
variable {X : Cx} {pos : Pos}
def gName (i : Nat) : TG := fun v σ H Q => Q (σ.set i (some v)) H
theorem pg_name {i : Nat} {x : Str} (hN : X.N.Nodup) (hi : X.N[i]? = some x) (hx : Loc X.env.scope x) (hf : X.fn x = true ∨ X.env.scope.names.lookup x = some .local := by first | exact .inl rfl | exact .inr rfl | assumption) : PG X (.Name x pos) (gName i) := by
  intro pins s σ H v u Q I r h
  exact wpAny_assign_Name (store_ok I hN hi hx r (fun s' I' => ⟨_, H, I', h⟩) hf)
def gNil : TGs := fun vs σ H Q => vs = [] ∧ Q σ H
def gCons (t : TG) (u : TGs) : TGs := fun vs σ H Q => ∃ v r, vs = v :: r ∧ t v σ H fun σ' H' => u r σ' H' Q
theorem pgs_nil : PGs X [] gNil := by
  intro pins s σ H vs us Q I r h
  obtain ⟨e, h⟩ := h
  subst e
  cases r
  exact assignInOrder_nil ⟨σ, H, I, h⟩
theorem pgs_cons {e : Expr} {es : List Expr} {t : TG} {u : TGs} (h1 : PG X e t) (h2 : PGs X es u)
    (hs : (assignEach (e :: es) X.env).map (·.2) = assign e X.env :: (assignEach es X.env).map (·.2) := by rfl) : PGs X (e :: es) (gCons t u) := by
  intro pins s σ H vs us Q I r h
  obtain ⟨v, vr, e1, h⟩ := h
  subst e1
  cases r with
  | cons r rr =>
    rw [hs]
    refine assignInOrder_cons (thn (h1 pins s σ H _ _ _ I r h) fun _ s1 ⟨σ1, H1, I1, q1⟩ => ?_)
    exact h2 pins s1 σ1 H1 _ _ Q I1 rr q1
def gTup (K : PySem.W.Frag) (n : Nat) (t : TGs) : TG := fun v σ H Q => ∃ a xs, v = .ref a ∧ SqT K H a xs ∧ xs.length = n ∧ t xs σ H Q
theorem pg_tup {es : List Expr} {k : Nat} {t : TGs} {n : Nat} (hc : X.calm = true) (h : PGs X es t)
    (hn : (assignEach es X.env).length = n := by rfl) (hst : (assignEach es X.env).findIdx? (·.1) = none := by rfl) : PG X (.Tuple es k pos) (gTup X.K n t) := by
  intro pins s σ H v u Q I r hw
  obtain ⟨a, xs, e1, hq, hl, hw⟩ := hw
  subst e1
  cases r
  obtain ⟨its, rv, ht, hz⟩ := I.tuple hq
  refine assign_Tuple_tuple (I.ok.hd hc) ht (by simp [hn, ← hl, rv.length]) hst fun h' hx => ?_
  have I1 : Inv X pins σ H { s with heap := h' } := I.kept (t' := s.toks) fun b o e => hx b o (Nat.ne_of_lt (Heap.lt_size e)) e
  exact h pins _ σ H xs _ Q I1 (by simpa using rv) hw
def gSub (to ti : TE) (t : TSet) : TG := fun v σ H Q => to σ H fun o H1 => ti σ H1 fun i H2 => t o i v H2 fun H3 => Q σ H3
theorem pg_sub {o i : Expr} {to ti : TE} {t : TSet} (ho : PE X o to) (hi : PE X i ti) (hs : PSet X t)
    (ha : ∀ v, assign (.Subscript o i pos) X.env v = (do
      let ov ← holding [v] (eval o X.env)
      let iv ← holding [v, ov] (eval i X.env)
      standAt pos
      holding [v, ov, iv] (setItem ov iv v)
      release [v, ov, iv] []) := by intro _; rfl) : PG X (.Subscript o i pos) (gSub to ti t) := by
  intro pins s σ H v u Q I r h
  rw [ha]
  refine wpAny_bind (wpAny_holding (thn (ho pins s σ H _ I h) fun ov s1 ⟨x, H1, I1, r1, q1⟩ => ?_))
  refine wpAny_bind (wpAny_holding (thn (hi pins s1 σ H1 _ I1 q1) fun iv s2 ⟨y, H2, I2, r2, q2⟩ => ?_))
  refine wpAny_bind (wpAny_standAt (wpAny_bind (wpAny_holding (thn (hs pins s2 σ H2 x y v ov iv u _ I2 r1 r2 r q2) fun _ s3 ⟨H3, I3, q3⟩ => ?_))))
  exact wpAny_release ⟨σ, H3, I3, q3⟩
def tAsg (te : TE) (g : TG) : TS := fun D σ H => te σ H fun x H1 => g x σ H1 D.nx
theorem ps_asg {tg e : Expr} {te : TE} {g : TG} (he : PE X e te) (hg : PG X tg g) (hs : swapsWithSole [tg] e pos.line X.env = pure false := by rfl) (hw : swappedStores [tg] e X.env = pure none := by rfl)
    (h1 : (assignEach [tg] X.env).map (·.2) = [assign tg X.env] := by rfl) : PS X (.Assign [tg] e pos) (tAsg te g) := by
  intro pins s σ H D I h
  refine wpAny_Assign_stores (thn (he pins s σ H _ I h) fun v s1 ⟨x, H1, I1, r1, q1⟩ => ?_) hs hw
  rw [h1]
  exact thn (hg pins s1 σ H1 x v _ I1 r1 q1) fun _ s2 q => q
theorem ps_set {i : Nat} {x : Str} {e : Expr} {te : TE} {pos' : Pos} (hN : X.N.Nodup) (hi : X.N[i]? = some x) (hx : Loc X.env.scope x) (he : PE X e te) (hs : swapsWith e (some (.Name x pos')) pos.line X.env = pure false := by rfl) (hf : X.fn x = true ∨ X.env.scope.names.lookup x = some .local := by first | exact .inl rfl | exact .inr rfl | assumption) :
    PS X (.Assign [.Name x pos'] e pos) (tAsg te (gName i)) := by
  intro pins s σ H D I h
  refine wpAny_Assign_Name (thn (he pins s σ H _ I h) fun v s1 ⟨y, H1, I1, r1, q1⟩ => ?_) hs
  exact store_ok I1 hN hi hx r1 (fun s2 I2 => ⟨_, H1, I2, q1⟩) hf
def tPar (i j : Nat) (ta : TA) : TS := fun D σ H => ta σ H fun vs H1 => ∃ v w, vs = [v, w] ∧ D.nx ((σ.set i (some v)).set j (some w)) H1
theorem ps_par {i j : Nat} {x y : Str} {a b : Expr} {ta : TA} {px py pt : Pos} {kt k2 pt2} (hc : X.calm = true) (hN : X.N.Nodup) (hi : X.N[i]? = some x) (hj : X.N[j]? = some y) (hij : i ≠ j)
    (hx : X.env.scope.names.lookup x = some .local) (hy : X.env.scope.names.lookup y = some .local) (ha : PA X [a, b] ta)
    (hw : swappedStores [.Tuple [.Name x px, .Name y py] kt pt] (.Tuple [a, b] k2 pt2) X.env = pure (some [x, y]))
    (hs : swapsWithSole [.Tuple [.Name x px, .Name y py] kt pt] (.Tuple [a, b] k2 pt2) pos.line X.env = pure false := by rfl) :
    PS X (.Assign [.Tuple [.Name x px, .Name y py] kt pt] (.Tuple [a, b] k2 pt2) pos) (tPar i j ta) := by
  intro pins s σ H D I h
  rw [exec_Assign_arm]
  refine wpAny_bind (wpAny_standAt ?_)
  rw [hs]
  refine wpAny_bind (wpAny_pure ?_)
  rw [if_neg (by decide)]
  refine wpAny_bind (Tuple_ (thn (ha _ pins s σ H _ I h) fun us s1 ⟨vs, H1, I1, r1, q1⟩ => ?_))
  obtain ⟨v, w, e1, q1⟩ := q1
  subst e1
  obtain ⟨u1, u2, rfl, rv, rw'⟩ : ∃ u1 u2, us = [u1, u2] ∧ RelV v u1 ∧ RelV w u2 := by
    cases r1 with
    | cons p q =>
      cases q with
      | cons p' q' =>
        cases q'
        exact ⟨_, _, rfl, p, p'⟩
  refine wpAny_newObj_type ?_ (by show 2 ≤ sizeLine; decide)
  have I2 : Inv X pins σ H1 { s1 with heap := s1.heap.push { cls := .type "tuple", data := .seq [u1, u2].toArray } } := I1.kept (t' := s1.toks) fun b o e => Heap.get?_push_of_some _ e
  rw [hw]
  refine wpAny_bind (wpAny_pure ?_)
  show wpAny (model X.prog X.w) X.A (do rule "assign.swapped-stores"; let items ← unpackItems (.ref s1.heap.objs.size) 2 none; assignInOrder [fun v => bindName X.env y v, fun v => bindName X.env x v] items.reverse; pure Flow.next) _ _ _
  refine wpAny_bind (wpAny_rule (wpAny_bind (unpackItems_tuple (items := #[u1, u2]) (I.ok.hd hc) (IsTup.new s1.heap _) fun h' hx' => ?_)))
  have I3 := I2.kept (h' := h') (t' := s1.toks) fun b o e => hx' b o (Nat.ne_of_lt (Heap.lt_size e)) e
  show wpAny _ _ (assignInOrder [fun v => bindName X.env y v, fun v => bindName X.env x v] [u2, u1] >>= fun _ => pure Flow.next) _ _ _
  refine wpAny_bind (assignInOrder_cons (wpAny_bindName (store_ok I3 hN hj (.inl hy) rw' (fun s2 I4 => ?_) (.inr hy))))
  refine assignInOrder_cons (wpAny_bindName (store_ok I4 hN hi (.inl hx) rv (fun s3 I5 => assignInOrder_nil (wpAny_pure ?_)) (.inr hx)))
  rw [List.set_comm _ _ (Ne.symm hij)] at I5
  exact ⟨_, H1, I5, q1⟩
def tAug (i : Nat) (te : TE) (ti : TIp) : TS := fun D σ H => ∃ x, σ[i]? = some (some x) ∧ te σ H fun y H1 => ti x y H1 fun z H2 => D.nx (σ.set i (some z)) H2
theorem ps_aug {i : Nat} {x : Str} {e : Expr} {te : TE} {op : Operator} {ti : TIp} {pos' : Pos} (hN : X.N.Nodup) (hi : X.N[i]? = some x) (hx : Loc X.env.scope x) (he : PE X e te) (ho : PIp X op ti) (hf : X.fn x = true ∨ X.env.scope.names.lookup x = some .local := by first | exact .inl rfl | exact .inr rfl | assumption) :
    PS X (.AugAssign (.Name x pos') op e pos) (tAug i te ti) := by
  intro pins s σ H D I h
  obtain ⟨v, e1, h⟩ := h
  obtain ⟨m, hn, hl⟩ := I.loc
  have vis : Vis X.env.scope x := by rcases hx with k | k; exact .inl k; exact .inr (.inl k)
  obtain ⟨u, r, l⟩ := hl i x v hi e1 vis
  refine wpAny_AugAssign_Name ?_
  have go : wpAny (model X.prog X.w) X.A (eval e X.env) (fun w s₂ => wpAny (model X.prog X.w) X.A (inplaceOp op u w) (fun r s₃ => wpAny (model X.prog X.w) X.A (storeName X.env x r) (fun _ => SP X pins D .next) X.xe s₃) X.xe s₂) X.xe s := by
    refine thn (he pins s σ H _ I h) fun w s1 ⟨y, H1, I1, r1, q1⟩ => ?_
    refine thn (ho pins s1 σ H1 v y u w _ I1 r r1 q1) fun z s2 ⟨zv, H2, I2, r2, q2⟩ => ?_
    exact store_ok I2 hN hi hx r2 (fun s3 I3 => ⟨_, H2, I3, q2⟩) hf
  rcases l with ⟨hk, hm⟩ | ⟨hk, c, hc, hcell⟩
  · exact wpAny_loadName_local I.ok.kind hk hn hm go
  · rcases hk with hk | hk
    · exact wpAny_loadName_cell I.ok.kind hk hc hcell go
    · rcases hx with k | k
      · have : X.env.scope.names.lookup x = some .free := hk
        rw [k] at this; cases this
      · have : X.env.scope.names.lookup x = some .free := hk
        rw [k] at this; cases this
def ipI (f : Int → Int → Int) : TIp := fun x y H Q => ∃ i j, x = .int i ∧ y = .int j ∧ Q (.int (f i j)) H
theorem ip_add : PIp X .Add (ipI fun i j => i + j) := by
  intro pins s σ H x y v u Q I r1 r2 h
  obtain ⟨i, j, e1, e2, q⟩ := h
  subst e1; subst e2
  obtain ⟨t, rfl⟩ := r1
  obtain ⟨t', rfl⟩ := r2
  exact iadd_int ⟨.int _, H, I.tok _, ⟨_, rfl⟩, q⟩
end
section
variable {X : Cx} {pos : Pos}
def tWhile (c : TT) (tb : TS) : TS := fun D σ H => ∃ W : Nat → St → Hp → Prop, (∃ m, W m σ H) ∧ ∀ m σ H, W m σ H →
  c σ H fun b H1 => if b = true then ∃ N : St → Hp → Prop, (∀ σ' H', N σ' H' → ∃ m', m' < m ∧ W m' σ' H') ∧ tb { D with nx := N, ct := N, bk := D.nx } σ H1 else D.nx σ H1
theorem ps_while {c : Expr} {body : List Stmt} {tc : TT} {tb : TS} (hp : PassesOwn (model X.prog X.w) X.A X.env X.xe) (hc : PT X c tc) (hb : PSs X body tb) : PS X (.While c body [] pos) (tWhile tc tb) := by
  intro pins s σ H D I h
  obtain ⟨W, ⟨m0, w0⟩, turn⟩ := h
  refine wpAny_While (codeAny_whileLoop (fun n s' => ∃ σ' H', Inv X pins σ' H' s' ∧ W n σ' H') ?_ m0 ⟨σ, H, I, w0⟩)
  rintro n s1 ⟨σ1, H1, I1, w1⟩
  refine wpAny_passesOwn hp (thn (hc pins s1 σ1 H1 _ I1 (turn n σ1 H1 w1)) fun b s2 ⟨H2, I2, q2⟩ => ?_)
  cases b with
  | true =>
    obtain ⟨N, hN, q2⟩ := q2
    rw [if_pos rfl]
    refine wpAny_passesOwn hp (thn (hb pins s2 σ1 H2 _ I2 q2) fun f s3 q3 => ?_)
    cases f with
    | next =>
      obtain ⟨σ3, H3, I3, n3⟩ := q3
      obtain ⟨m', hm, w3⟩ := hN σ3 H3 n3
      exact ⟨m', hm, σ3, H3, I3, w3⟩
    | cont =>
      obtain ⟨σ3, H3, I3, n3⟩ := q3
      obtain ⟨m', hm, w3⟩ := hN σ3 H3 n3
      exact ⟨m', hm, σ3, H3, I3, w3⟩
    | brk => exact q3
    | ret v => exact q3
  | false =>
    rw [if_neg Bool.false_ne_true]
    exact wpAny_execs_nil ⟨σ1, H2, I2, q2⟩
end
structure It where
  go : Nat → Hp → Prop
  yld : Nat → Hp → V → Hp → Prop
  stop : Nat → Hp → Prop
def FpOk (X : Cx) (pins : List (Addr × Obj)) (H : Hp) (b : Addr) : Prop :=
  H b = none ∧ b ≠ X.env.locals ∧ b ∉ X.fs ∧ (b ∈ X.ex ∨ X.s_0.heap.objs.size ≤ b) ∧ (∀ x c, X.env.cells.lookup x = some c → c ≠ b) ∧ ∀ p ∈ X.pn ++ pins, p.1 ≠ b
theorem Inv.fpOk {X : Cx} {pins : List (Addr × Obj)} {σ : St} {H H' : Hp} {s : Shared} {b : Addr} (I : Inv X pins σ H s) (hb : s.heap.objs.size ≤ b) (hn : H' b = none) : FpOk X pins H' b := by
  refine ⟨hn, Nat.ne_of_gt (Nat.lt_of_lt_of_le I.lt hb), I.nofs hb, .inr (Nat.le_trans I.sz hb), fun x c e z => ?_, fun p hp z => ?_⟩
  · obtain ⟨v, q⟩ := I.cell x c e
    exact absurd (Nat.lt_of_lt_of_le q.lt (by rw [z]; exact hb)) (Nat.lt_irrefl _)
  · exact absurd (Nat.lt_of_lt_of_le (Heap.lt_size (I.pin p hp).1) (by rw [z]; exact hb)) (Nat.lt_irrefl _)
structure Turn (P : Program) (w : World) (K : PySem.W.Frag) (tg : Expr) (J : It) (fp : List Addr) (it : Addr) (tn : Nat → Heap → Prop) : Prop where
  mem : it ∈ fp
  obj : ∀ i h, tn i h → ∀ b ∈ fp, ∃ o, h.get? b = some o ∧ ∀ v, o.data ≠ .cell v
  keep : ∀ i h h', tn i h → (∀ b ∈ fp, ∀ o, h.get? b = some o → h'.get? b = some o) → tn i h'
  item : ∀ (X : Cx), X.prog = P → X.w = w → X.K = K → X.calm = true → ∀ (i : Nat) (pins : List (Addr × Obj)) (s : Shared) (σ : St) (H : Hp) (E : Value → Shared → Prop), Inv X pins σ H s → (∀ b ∈ fp, FpOk X pins H b) → tn i s.heap → J.go i H →
    wpAny (model P w) X.A (pyNext (.ref it)) (fun r s1 => ∃ u, r = some u ∧
      wpAny (model P w) X.A (letOwnedTupleGo tg (.ref it) u) (fun _ s2 => ∃ x H', Inv X pins σ H' s2 ∧ RelV x u ∧ J.yld i H x H' ∧ tn (i + 1) s2.heap ∧ ∀ b ∈ fp, H' b = none) E s1) E s
  done : ∀ (X : Cx), X.prog = P → X.w = w → X.K = K → X.calm = true → ∀ (i : Nat) (pins : List (Addr × Obj)) (s : Shared) (σ : St) (H : Hp) (E : Value → Shared → Prop), Inv X pins σ H s → (∀ b ∈ fp, FpOk X pins H b) → tn i s.heap → J.stop i H →
    wpAny (model P w) X.A (pyNext (.ref it)) (fun r s1 => r = none ∧ Inv X pins σ H s1) E s
  self : ∀ (A : Around) (i : Nat) (s : Shared) (Q : Value → Shared → Prop) (E : Value → Shared → Prop), tn i s.heap → Q (.ref it) s → wpAny (model P w) A (pyIter (.ref it)) Q E s
abbrev TI := St → Hp → (It → Hp → Prop) → Prop
def PIE (X : Cx) (pins : List (Addr × Obj)) (σ : St) (tg : Expr) (R : It → Hp → Prop) (itv : Value) (s2 : Shared) : Prop :=
  ∃ (it : Addr) (fp : List Addr) (tn : Nat → Heap → Prop) (J : It) (H' : Hp), itv = .ref it ∧ Inv X pins σ H' s2 ∧ Turn X.prog X.w X.K tg J fp it tn ∧ tn 0 s2.heap ∧ (∀ b ∈ fp, FpOk X pins H' b) ∧ R J H'
def PI (X : Cx) (tg iter : Expr) (wi : TI) : Prop :=
  ∀ (pins : List (Addr × Obj)) (s : Shared) (σ : St) (H : Hp) (R : It → Hp → Prop), Inv X pins σ H s → wi σ H R →
    wpAny (model X.prog X.w) X.A (eval iter X.env) (fun v s1 => wpAny (model X.prog X.w) X.A (pyIter v) (PIE X pins σ tg R) X.xe s1) X.xe s
theorem go_of {M : Model} {A : Around} {E : Value → Shared → Prop} {s : Shared} {tg : Expr} {it : Addr} {u : Value} {o : Obj} {n : String} {vs : Array Value} {Q : Unit → Shared → Prop} (ho : s.heap.get? it = some o) (hc : o.cls = .type n) (hd : o.data = .fields vs)
    (hn : ["enumerate", "zip", "dict_itemiterator", "dict_reverseitemiterator", "odict_iterator", "itertools.zip_longest", "itertools.pairwise"].contains n = false) (hQ : Q () s) : wpAny M A (letOwnedTupleGo tg (.ref it) u) Q E s := by
  unfold letOwnedTupleGo
  cases tg <;> first
    | exact wpAny_pure hQ
    | (cases u <;> first
        | exact wpAny_pure hQ
        | (refine wpAny_bind (wpAny_load ho ?_)
           rw [hc, hd]
           show wpAny M A (if (["enumerate", "zip", "dict_itemiterator", "dict_reverseitemiterator", "odict_iterator", "itertools.zip_longest", "itertools.pairwise"].contains n && vs[0]? == some (rawInt _)) = true then _ else _) Q E s
           rw [if_neg (by intro h; rw [hn, Bool.false_and] at h; cases h)]
           exact wpAny_pure hQ))
def Itl (K : PySem.W.Frag) (a : Addr) : It :=
  ⟨fun i H => ∃ xs x, SqL K H a xs ∧ xs[i]? = some x, fun i H x H' => H' = H ∧ ∀ xs, SqL K H a xs → xs[i]? = some x, fun i H => ∃ xs, SqL K H a xs ∧ xs.length ≤ i⟩
def Itt (K : PySem.W.Frag) (a : Addr) : It :=
  ⟨fun i H => ∃ xs x, SqT K H a xs ∧ xs[i]? = some x, fun i H x H' => H' = H ∧ ∀ xs, SqT K H a xs → xs[i]? = some x, fun i H => ∃ xs, SqT K H a xs ∧ xs.length ≤ i⟩
def Itr (lo : Int) (n : Nat) : It := ⟨fun i _ => i < n, fun i H x H' => H' = H ∧ x = .int (lo + i), fun i _ => n ≤ i⟩
theorem turn_list {P : Program} {w : World} {K : PySem.W.Frag} {tg : Expr} (a it : Addr) : Turn P w K tg (Itl K a) [it] it (fun i h => h.IsListIter it a i) where
  mem := by simp
  obj := fun i h st b hb => by
    have e : b = it := by simpa using hb
    subst e
    obtain ⟨o, e, c, d⟩ := st
    exact ⟨o, e, fun v z => by rw [d] at z; cases z⟩
  keep := fun i h h' st k => st.at fun o e => k it (by simp) o e
  item := by
    intro X hP hw hK hc i pins s σ H E I hf st hg
    subst hP hw hK
    obtain ⟨xs, x, hq, hx⟩ := hg
    obtain ⟨its, rv, p, hz⟩ := I.list hq
    obtain ⟨u, hu, ru⟩ := rv.get hx
    obtain ⟨f0, f1, f2, f3, f4, f5⟩ := hf it (by simp)
    refine wpAny_pyNext_list_item st p.isList (x := u) (by simpa using hu) fun h' st' sb => ?_
    have I1 : Inv X pins σ H { s with heap := h' } := I.turned (t' := s.toks) (fun b o hb e => (sb.2 b hb).trans e) f0 f1 f3 f4 f5
    obtain ⟨o, e, c, d⟩ := id st'
    exact ⟨u, rfl, go_of (s := { s with heap := h' }) e c d (by decide) ⟨x, H, I1, ru, ⟨rfl, fun ys hy => by rw [I.list_inj hy hq]; exact hx⟩, st', fun b hb => (hf b hb).1⟩⟩
  done := by
    intro X hP hw hK hc i pins s σ H E I hf st hg
    subst hP hw hK
    obtain ⟨xs, hq, hx⟩ := hg
    obtain ⟨its, rv, p, hz⟩ := I.list hq
    obtain ⟨f0, f1, f2, f3, f4, f5⟩ := hf it (by simp)
    have hl := rv.length
    exact wpAny_pyNext_list_end (I.ok.hd hc) st p.isList (by simp; omega) fun h' eb => ⟨rfl, I.turned (t' := s.toks) (fun b o hb e => eb b o hb e) f0 f1 f3 f4 f5⟩
  self := fun _ _ _ _ _ st h => wpAny_pyIter_listiter st h
theorem turn_tuple {P : Program} {w : World} {K : PySem.W.Frag} {tg : Expr} (a it : Addr) : Turn P w K tg (Itt K a) [it] it (fun i h => h.IsTupleIter it a i) where
  mem := by simp
  obj := fun i h st b hb => by
    have e : b = it := by simpa using hb
    subst e
    obtain ⟨o, e, c, d⟩ := st
    exact ⟨o, e, fun v z => by rw [d] at z; cases z⟩
  keep := fun i h h' st k => st.at fun o e => k it (by simp) o e
  item := by
    intro X hP hw hK hc i pins s σ H E I hf st hg
    subst hP hw hK
    obtain ⟨xs, x, hq, hx⟩ := hg
    obtain ⟨its, rv, p, hz⟩ := I.tuple hq
    obtain ⟨u, hu, ru⟩ := rv.get hx
    obtain ⟨f0, f1, f2, f3, f4, f5⟩ := hf it (by simp)
    refine wpAny_pyNext_tuple_item st (show s.heap.IsTuple a its.toArray from p) (x := u) (by simpa using hu) fun h' st' sb => ?_
    have I1 : Inv X pins σ H { s with heap := h' } := I.turned (t' := s.toks) (fun b o hb e => (sb.2 b hb).trans e) f0 f1 f3 f4 f5
    obtain ⟨o, e, c, d⟩ := id st'
    exact ⟨u, rfl, go_of (s := { s with heap := h' }) e c d (by decide) ⟨x, H, I1, ru, ⟨rfl, fun ys hy => by rw [I.tuple_inj hy hq]; exact hx⟩, st', fun b hb => (hf b hb).1⟩⟩
  done := by
    intro X hP hw hK hc i pins s σ H E I hf st hg
    subst hP hw hK
    obtain ⟨xs, hq, hx⟩ := hg
    obtain ⟨its, rv, p, hz⟩ := I.tuple hq
    obtain ⟨f0, f1, f2, f3, f4, f5⟩ := hf it (by simp)
    have hl := rv.length
    exact wpAny_pyNext_tuple_end (I.ok.hd hc) st (show s.heap.IsTuple a its.toArray from p) (by simp; omega) fun h' eb => ⟨rfl, I.turned (t' := s.toks) (fun b o hb e => eb b o hb e) f0 f1 f3 f4 f5⟩
  self := fun _ _ _ _ _ st h => wpAny_pyIter_tupleiter st h
theorem turn_range {P : Program} {w : World} {K : PySem.W.Frag} {tg : Expr} (it : Addr) (lo : Int) (n : Nat) : Turn P w K tg (Itr lo n) [it] it (fun i h => IsRangeIter h it (lo + (i : Nat) * 1) ((n : Int) - (i : Nat)) 1) where
  mem := by simp
  obj := fun i h st b hb => by
    have e : b = it := by simpa using hb
    subst e
    exact ⟨_, st, fun v z => by
      have z' : Data.fields _ = Data.cell v := z
      cases z'⟩
  keep := fun i h h' st k => k it (by simp) _ st
  item := by
    intro X hP hw hK hc i pins s σ H E I hf st hg
    subst hP hw hK
    obtain ⟨f0, f1, f2, f3, f4, f5⟩ := hf it (by simp)
    have W := Walks.range (prog := X.prog) (w := X.w) (I.ok.hd hc) it lo 1 n
    refine W.item i s _ _ hg st fun v h' tk hv st' kk => ?_
    obtain ⟨t, rfl⟩ := hv
    have I1 : Inv X pins σ H { s with heap := h', toks := tk } := I.turned (fun b o hb e => kk b o (by simpa using hb) e) f0 f1 f3 f4 f5
    refine ⟨_, rfl, go_of (s := { s with heap := h', toks := tk }) (n := "range_iterator") st' rfl rfl (by decide) ⟨.int (lo + i), H, I1, ⟨t, ?_⟩, ⟨rfl, rfl⟩, st', fun b hb => (hf b hb).1⟩⟩
    rw [Int.mul_one]
  done := by
    intro X hP hw hK hc i pins s σ H E I hf st hg
    subst hP hw hK
    obtain ⟨f0, f1, f2, f3, f4, f5⟩ := hf it (by simp)
    exact wpAny_pyNext_range_end (I.ok.hd hc) st (by have : n ≤ i := hg; omega) fun h' eb => ⟨rfl, I.turned (t' := s.toks) (fun b o hb e => eb b o hb e) f0 f1 f3 f4 f5⟩
  self := fun _ _ _ _ _ st h => wpAny_pyIter_rangeiter st h
end L2
namespace L2
open PySem PySem.Spec PyProof.Rows
section
variable {X : Cx} {tg : Expr}
def iList (K : PySem.W.Frag) (tl : TE) : TI := fun σ H R => tl σ H fun x H1 => ∃ a, x = .ref a ∧ (∃ xs, SqL K H1 a xs) ∧ R (Itl K a) H1
def iTup (K : PySem.W.Frag) (tl : TE) : TI := fun σ H R => tl σ H fun x H1 => ∃ a, x = .ref a ∧ (∃ xs, SqT K H1 a xs) ∧ R (Itt K a) H1
theorem pi_list {l : Expr} {tl : TE} (hl : PE X l tl) : PI X tg l (iList X.K tl) := by
  intro pins s σ H R I h
  refine thn (hl pins s σ H _ I h) fun v s1 ⟨x, H1, I1, r1, q1⟩ => ?_
  obtain ⟨a, e, ⟨xs, hq⟩, q⟩ := q1
  subst e
  cases r1
  obtain ⟨its, rv, p, hz⟩ := I1.list hq
  refine wpAny_pyIter_list p.isList ?_
  refine ⟨s1.heap.objs.size, [s1.heap.objs.size], _, _, H1, rfl, I1.kept (t' := s1.toks) fun b o e => Heap.get?_push_of_some _ e, turn_list a _, ⟨_, Heap.get?_push_size _ rfl, rfl, rfl⟩, fun b hb => ?_, q⟩
  have e : b = s1.heap.objs.size := by simpa using hb
  subst e
  exact I1.fpOk (Nat.le_refl _) (I1.hok.fresh (Nat.le_refl _))
theorem pi_tup {l : Expr} {tl : TE} (hl : PE X l tl) : PI X tg l (iTup X.K tl) := by
  intro pins s σ H R I h
  refine thn (hl pins s σ H _ I h) fun v s1 ⟨x, H1, I1, r1, q1⟩ => ?_
  obtain ⟨a, e, ⟨xs, hq⟩, q⟩ := q1
  subst e
  cases r1
  obtain ⟨its, rv, p, hz⟩ := I1.tuple hq
  refine wpAny_pyIter_tuple (show s1.heap.IsTuple a its.toArray from p) ?_
  refine ⟨s1.heap.objs.size, [s1.heap.objs.size], _, _, H1, rfl, I1.kept (t' := s1.toks) fun b o e => Heap.get?_push_of_some _ e, turn_tuple a _, ⟨_, Heap.get?_push_size _ rfl, rfl, rfl⟩, fun b hb => ?_, q⟩
  have e : b = s1.heap.objs.size := by simpa using hb
  subst e
  exact I1.fpOk (Nat.le_refl _) (I1.hok.fresh (Nat.le_refl _))
theorem range_it {pins : List (Addr × Obj)} {σ : St} {H : Hp} {s : Shared} {R : It → Hp → Prop} {E : Value → Shared → Prop} {lo hi : Int} {t u v : Tok} {tk : Nat} (I : Inv X pins σ H s) (h1 : -(2 ^ 62) ≤ lo) (h2 : lo < 2 ^ 62) (h3 : -(2 ^ 62) ≤ hi) (h4 : hi < 2 ^ 62)
    (q : R (Itr lo (hi - lo).toNat) H) : wpAny (model X.prog X.w) X.A (pyIter (.ref s.heap.objs.size)) (PIE X pins σ tg R) E { s with heap := s.heap.push { cls := .type "range", data := .fields #[.int lo t, .int hi u, .int 1 v] }, toks := tk } := by
  refine wpAny_pyIter_range (IsRange.new ..) (small_one h1 h2 h3 h4) ?_
  have I1 : Inv X pins σ H { s with heap := s.heap.push { cls := .type "range", data := .fields #[.int lo t, .int hi u, .int 1 v] }, toks := tk } := I.kept fun b o e => Heap.get?_push_of_some _ e
  refine ⟨(s.heap.push { cls := .type "range", data := .fields #[.int lo t, .int hi u, .int 1 v] }).objs.size, [(s.heap.push { cls := .type "range", data := .fields #[.int lo t, .int hi u, .int 1 v] }).objs.size], _, _, H, rfl,
    I1.kept (t' := tk) fun b o e => Heap.get?_push_of_some _ e, turn_range _ lo (hi - lo).toNat, ?_, fun b hb => ?_, q⟩
  · have e1 : lo + ((0 : Nat) : Int) * 1 = lo := by simp
    have e2 : (((hi - lo).toNat : Nat) : Int) - ((0 : Nat) : Int) = Builtin.Range.rangeSize lo hi 1 := by rw [rangeSize_one]; split <;> omega
    show IsRangeIter _ _ (lo + ((0 : Nat) : Int) * 1) ((((hi - lo).toNat : Nat) : Int) - ((0 : Nat) : Int)) 1
    rw [e1, e2]
    exact Heap.get?_push_size _ rfl
  · have e : b = (s.heap.push { cls := .type "range", data := .fields #[.int lo t, .int hi u, .int 1 v] }).objs.size := by simpa using hb
    subst e
    exact I1.fpOk (Nat.le_refl _) (I1.hok.fresh (Nat.le_refl _))
def iRng1 (ta : TA) : TI := fun σ H R => ta σ H fun vs H1 => ∃ j : Int, vs = [.int j] ∧ -(2 ^ 62) ≤ j ∧ j < 2 ^ 62 ∧ R (Itr 0 j.toNat) H1
theorem pi_range1 {a : Expr} {ta : TA} {p pos : Pos} (hg : Gl X "range") (hm : X.mg "range" = none) (ha : PA X [a] ta) (hs : starEach [a] X.env = [(false, eval a X.env)] := by rfl) : PI X tg (.Call (.Name "range" p) [a] [] pos) (iRng1 ta) := by
  intro pins s σ H R I h
  refine Call_ (ld_blt I hg hm boot_range (PyProof.Rows.callWith_type1 (thn (ha pos pins s σ H _ I h) fun us s1 ⟨vs, H1, I1, r1, q1⟩ => ?_) hs rfl))
  obtain ⟨j, e, q1, q2, q⟩ := q1
  subst e
  cases r1 with
  | cons r rr =>
    cases rr
    obtain ⟨t, rfl⟩ := r
    exact call_range_1 (range_it I1 (by omega) (by omega) q1 q2 (by simpa using q))
def tFor (wi : TI) (g : TG) (tb : TS) : TS := fun D σ H => wi σ H fun J H1 => ∃ W : Nat → Nat → St → Hp → Prop, (∃ m, W 0 m σ H1) ∧ ∀ i m σ H, W i m σ H →
  (J.stop i H ∧ D.nx σ H) ∨ (J.go i H ∧ ∃ N : St → Hp → Prop, (∀ σ' H', N σ' H' → ∃ m', m' < m ∧ W (i + 1) m' σ' H') ∧ ∀ x H', J.yld i H x H' → g x σ H' fun σ2 H2 => tb { D with nx := N, ct := N, bk := D.nx } σ2 H2)
def pinsAt (fp : List Addr) (h : Heap) : List (Addr × Obj) := fp.filterMap fun b => (h.get? b).map fun o => (b, o)
theorem mem_pinsAt {fp : List Addr} {h : Heap} {b : Addr} {o : Obj} (hb : b ∈ fp) (e : h.get? b = some o) : (b, o) ∈ pinsAt fp h := List.mem_filterMap.mpr ⟨b, hb, by rw [e]; rfl⟩
theorem of_pinsAt {fp : List Addr} {h : Heap} {p : Addr × Obj} (hp : p ∈ pinsAt fp h) : p.1 ∈ fp ∧ h.get? p.1 = some p.2 := by
  obtain ⟨b, hb, e⟩ := List.mem_filterMap.mp hp
  cases q : h.get? b with
  | none => rw [q] at e; cases e
  | some o =>
    rw [q] at e
    have e' : (b, o) = p := Option.some.inj e
    subst e'
    exact ⟨hb, q⟩
theorem Inv.pinned {pins : List (Addr × Obj)} {σ : St} {H : Hp} {s : Shared} {fp : List Addr} (I : Inv X pins σ H s) (hf : ∀ b ∈ fp, FpOk X pins H b) (ho : ∀ b ∈ fp, ∃ o, s.heap.get? b = some o ∧ ∀ v, o.data ≠ .cell v) : Inv X (pins ++ pinsAt fp s.heap) σ H s :=
  I.pins_of fun p hp => (List.mem_append.mp hp).elim (fun z => I.pin p (List.mem_append_right _ z)) fun z => by
    obtain ⟨hb, e⟩ := of_pinsAt z
    obtain ⟨f0, f1, f2, _⟩ := hf p.1 hb
    obtain ⟨o, e', d⟩ := ho p.1 hb
    rw [e] at e'; cases e'
    exact ⟨e, f0, f1, f2, d⟩
theorem Inv.unpinned {pins pl : List (Addr × Obj)} {σ : St} {H : Hp} {s : Shared} (I : Inv X (pins ++ pl) σ H s) : Inv X pins σ H s := I.pins_of fun p hp => I.pin p (List.mem_append_right _ (List.mem_append_left _ hp))
theorem ps_for {iter : Expr} {body : List Stmt} {wi : TI} {g : TG} {tb : TS} {pos : Pos} (hp : PassesOwn (model X.prog X.w) X.A X.env X.xe) (hc : X.calm = true) (hi : PI X tg iter wi) (hg : PG X tg g) (hb : PSs X body tb)
    (hs : ∀ x, foldedSetIterable iter X.env x = pure x := by intro _; rfl) : PS X (.For tg iter body [] pos) (tFor wi g tb) := by
  intro pins s σ H D I h
  refine wpAny_For (thn (hi pins s σ H _ I h) fun v s1 h1 => thn h1 fun itv s2 h2 => ?_) hs
  obtain ⟨it, fp, tn, J, H2, e, I2, T, st2, f2, W, ⟨m0, w0⟩, turn⟩ := h2
  subst e
  -- what stays true of the iterator's objects through the loop
  have stat : ∀ {H' : Hp}, (∀ b ∈ fp, H' b = none) → ∀ b ∈ fp, FpOk X pins H' b := fun hn b hb => ⟨hn b hb, (f2 b hb).2⟩
  refine codeAny_forLoop_any (fun n s' => ∃ i σ' H', Inv X pins σ' H' s' ∧ tn i s'.heap ∧ (∀ b ∈ fp, H' b = none) ∧ W i n σ' H') ?_ m0 ⟨0, σ, H2, I2, st2, fun b hb => (f2 b hb).1, w0⟩
  rintro n s3 ⟨i, σ3, H3, I3, st3, fr3, w3⟩
  rcases turn i n σ3 H3 w3 with ⟨stop, qn⟩ | ⟨go, N, hN, step⟩
  · refine wpAny_passesOwn hp (thn (T.done X rfl rfl rfl hc i pins s3 σ3 H3 X.xe I3 (stat fr3) st3 stop) fun r s4 ⟨hr, I4⟩ => ?_)
    subst hr
    exact wpAny_execs_nil ⟨σ3, H3, I4, qn⟩
  · refine wpAny_passesOwn hp (thn (T.item X rfl rfl rfl hc i pins s3 σ3 H3 X.xe I3 (stat fr3) st3 go) fun r s4 ⟨u, hr, h4⟩ => ?_)
    subst hr
    refine wpAny_passesOwn hp (thn h4 fun _ s5 ⟨x, H5, I5, r5, y5, st5, fr5⟩ => ?_)
    have I5' := I5.pinned (stat fr5) (T.obj _ _ st5)
    refine wpAny_passesOwn hp (thn (hg _ s5 σ3 H5 x u _ I5' r5 (step x H5 y5)) fun _ s6 ⟨σ6, H6, I6, q6⟩ => ?_)
    refine wpAny_passesOwn hp (thn (hb _ s6 σ6 H6 _ I6 q6) fun f s7 q7 => ?_)
    have again : ∀ {σ7 : St} {H7 : Hp}, Inv X (pins ++ pinsAt fp s5.heap) σ7 H7 s7 → N σ7 H7 → ∃ m, m < n ∧ ∃ i σ' H', Inv X pins σ' H' s7 ∧ tn i s7.heap ∧ (∀ b ∈ fp, H' b = none) ∧ W i m σ' H' := fun {σ7 H7} I7 n7 => by
      obtain ⟨m', hm, w7⟩ := hN σ7 H7 n7
      refine ⟨m', hm, i + 1, σ7, H7, I7.unpinned, T.keep _ _ _ st5 fun b hb o e => (I7.pin (b, o) (List.mem_append_right _ (List.mem_append_right _ (mem_pinsAt hb e)))).1, fun b hb => ?_, w7⟩
      obtain ⟨o, e, d⟩ := T.obj _ _ st5 b hb
      exact (I7.pin (b, o) (List.mem_append_right _ (List.mem_append_right _ (mem_pinsAt hb e)))).2.1
    cases f with
    | next => obtain ⟨σ7, H7, I7, n7⟩ := q7; exact again I7 n7
    | cont => obtain ⟨σ7, H7, I7, n7⟩ := q7; exact again I7 n7
    | brk => obtain ⟨σ7, H7, I7, q7⟩ := q7; exact ⟨σ7, H7, I7.unpinned, q7⟩
    | ret v => obtain ⟨x7, σ7, H7, I7, r7, q7⟩ := q7; exact ⟨x7, σ7, H7, I7.unpinned, r7, q7⟩
end
theorem for_range {lo : Int} {n : Nat} {g : TG} {tb : TS} {D : Ends} {σ : St} {H : Hp} (Pv : Nat → St → Hp → Prop) (h0 : Pv 0 σ H)
    (hs : ∀ i σ H, i < n → Pv i σ H → g (.int (lo + i)) σ H fun σ2 H2 => tb { D with nx := Pv (i + 1), ct := Pv (i + 1), bk := D.nx } σ2 H2) (hd : ∀ σ H, Pv n σ H → D.nx σ H) :
    ∃ W : Nat → Nat → St → Hp → Prop, (∃ m, W 0 m σ H) ∧ ∀ i m σ H, W i m σ H →
      ((Itr lo n).stop i H ∧ D.nx σ H) ∨ ((Itr lo n).go i H ∧ ∃ N : St → Hp → Prop, (∀ σ' H', N σ' H' → ∃ m', m' < m ∧ W (i + 1) m' σ' H') ∧ ∀ x H', (Itr lo n).yld i H x H' → g x σ H' fun σ2 H2 => tb { D with nx := N, ct := N, bk := D.nx } σ2 H2) := by
  refine ⟨fun i m σ H => m = n - i ∧ i ≤ n ∧ Pv i σ H, ⟨n, by simp, Nat.zero_le _, h0⟩, ?_⟩
  rintro i m σ H ⟨rfl, hi, p⟩
  by_cases hlt : i < n
  · refine .inr ⟨hlt, Pv (i + 1), fun σ' H' p' => ⟨n - (i + 1), by omega, rfl, hlt, p'⟩, fun x H' y => ?_⟩
    obtain ⟨e, y⟩ := y
    subst e y
    exact hs i σ _ hlt p
  · have e : i = n := by omega
    subst e
    exact .inl ⟨Nat.le_refl _, hd σ H p⟩
end L2
namespace L2
open PySem PySem.Spec PyProof.Rows
abbrev R2 := V → V → Hp → VK → Prop
def OpR (X : Cx) (f : Value → Value → Sem Value) (r : R2) : Prop :=
  ∀ (pins : List (Addr × Obj)) (s : Shared) (σ : St) (H : Hp) (x y : V) (v u : Value) (Q : VK), Inv X pins σ H s → RelV x v → RelV y u → r x y H Q →
    wpAny (model X.prog X.w) X.A (f v u) (EP X pins σ Q) X.xe s
def CallR (X : Cx) (f : Value) (r : List V → Hp → VK → Prop) : Prop :=
  ∀ (pins : List (Addr × Obj)) (s : Shared) (σ : St) (H : Hp) (xs : List V) (us : List Value) (Q : VK), Inv X pins σ H s → Vals xs us → r xs H Q →
    wpAny (model X.prog X.w) X.A (call f us) (EP X pins σ Q) X.xe s
def TruR (X : Cx) (r : V → Hp → (Bool → Hp → Prop) → Prop) : Prop :=
  ∀ (pins : List (Addr × Obj)) (s : Shared) (σ : St) (H : Hp) (x : V) (v : Value) (Q : Bool → Hp → Prop), Inv X pins σ H s → RelV x v → r x H Q →
    wpAny (model X.prog X.w) X.A (truthy v) (TP X pins σ Q) X.xe s
def tOp (r : R2) (ta tb : TE) : TE := fun σ H Q => ta σ H fun x H1 => tb σ H1 fun y H2 => r x y H2 Q
def rI (C : Int → Int → Prop) (g : Int → Int → V) : R2 := fun x y H Q => ∃ i j, x = .int i ∧ y = .int j ∧ C i j ∧ Q (g i j) H
def rI0 (g : Int → Int → V) : R2 := fun x y H Q => ∃ i j, x = .int i ∧ y = .int j ∧ Q (g i j) H
section
variable {X : Cx} {a b c : Expr} {ta tb tc : TE} {pos : Pos}
theorem binT (ha : PE X a ta) (hb : PE X b tb) {pins : List (Addr × Obj)} {s : Shared} {σ : St} {H : Hp} {R : V → V → Hp → Prop} (I : Inv X pins σ H s)
    (h : ta σ H fun x H1 => tb σ H1 fun y H2 => R x y H2) {Q : Value → Shared → Prop} {f : Value → Value → Sem Value}
    (hf : ∀ v u s2 x y H2, Inv X pins σ H2 s2 → RelV x v → RelV y u → R x y H2 → wpAny (model X.prog X.w) X.A (f v u) Q X.xe s2) :
    wpAny (model X.prog X.w) X.A (eval a X.env) (fun v s₁ => wpAny (model X.prog X.w) X.A (eval b X.env) (fun u s₂ => wpAny (model X.prog X.w) X.A (f v u) Q X.xe s₂) X.xe s₁) X.xe s := by
  refine thn (ha pins s σ H _ I h) fun v s1 ⟨x, H1, I1, r1, q1⟩ => ?_
  refine thn (hb pins s1 σ H1 _ I1 q1) fun u s2 ⟨y, H2, I2, r2, q2⟩ => ?_
  exact hf v u s2 x y H2 I2 r1 r2 q2
theorem pe_op {op : Operator} {r : R2} (ho : OpR X (binaryOp op) r) (ha : PE X a ta) (hb : PE X b tb) : PE X (.BinOp a op b pos) (tOp r ta tb) := by
  intro pins s σ H Q I h
  exact wpAny_BinOp (binT ha hb I h fun v u s2 x y H2 I2 rx ry q => ho pins s2 σ H2 x y v u Q I2 rx ry q)
theorem opI {f : Value → Value → Sem Value} {C : Int → Int → Prop} {g : Int → Int → Int}
    (rule : ∀ (i j : Int) (t u : Tok) (s : Shared) (Q : Value → Shared → Prop) (E : Value → Shared → Prop), C i j → Q (.int (g i j) s.toks) { s with toks := s.toks + 1 } → wpAny (model X.prog X.w) X.A (f (.int i t) (.int j u)) Q E s) :
    OpR X f (rI C fun i j => .int (g i j)) := by
  intro pins s σ H x y v u Q I rx ry h
  obtain ⟨i, j, rfl, rfl, hc, q⟩ := h
  obtain ⟨t, rfl⟩ := rx
  obtain ⟨t', rfl⟩ := ry
  exact rule i j t t' s _ _ hc ⟨.int (g i j), H, I.tok _, ⟨_, rfl⟩, q⟩
theorem opI0 {f : Value → Value → Sem Value} {g : Int → Int → Int}
    (rule : ∀ (i j : Int) (t u : Tok) (s : Shared) (Q : Value → Shared → Prop) (E : Value → Shared → Prop), Q (.int (g i j) s.toks) { s with toks := s.toks + 1 } → wpAny (model X.prog X.w) X.A (f (.int i t) (.int j u)) Q E s) :
    OpR X f (rI0 fun i j => .int (g i j)) := by
  intro pins s σ H x y v u Q I rx ry h
  obtain ⟨i, j, rfl, rfl, q⟩ := h
  obtain ⟨t, rfl⟩ := rx
  obtain ⟨t', rfl⟩ := ry
  exact rule i j t t' s _ _ ⟨.int (g i j), H, I.tok _, ⟨_, rfl⟩, q⟩
theorem opB0 {f : Value → Value → Sem Value} {g : Int → Int → Bool}
    (rule : ∀ (i j : Int) (t u : Tok) (s : Shared) (Q : Value → Shared → Prop) (E : Value → Shared → Prop), Q (.bool (g i j)) s → wpAny (model X.prog X.w) X.A (f (.int i t) (.int j u)) Q E s) :
    OpR X f (rI0 fun i j => .bl (g i j)) := by
  intro pins s σ H x y v u Q I rx ry h
  obtain ⟨i, j, rfl, rfl, q⟩ := h
  obtain ⟨t, rfl⟩ := rx
  obtain ⟨t', rfl⟩ := ry
  exact rule i j t t' s _ _ ⟨.bl (g i j), H, I, rfl, q⟩
def CDiv (i j : Int) : Prop := 0 < j ∧ j < 1073741824
def CPow (i j : Int) : Prop := 0 ≤ j ∧ j ≤ 1000000 ∧ i.natAbs < 2 ^ 64
def CMul (i j : Int) : Prop := (-(2 ^ 64) < i ∧ i < 2 ^ 64) ∨ (-(2 ^ 64) < j ∧ j < 2 ^ 64)
theorem CMul.ok {i j : Int} (h : CMul i j) : IntMulOk i j := by
  rcases h with ⟨h1, h2⟩ | ⟨h1, h2⟩
  · exact .of_left (intBits_le_64 h1 h2)
  · exact .of_right (intBits_le_64 h1 h2)
theorem op_add : OpR X (binaryOp .Add) (rI0 fun i j => .int (i + j)) := opI0 fun _ _ _ _ _ _ _ q => add_int q
theorem op_sub : OpR X (binaryOp .Sub) (rI0 fun i j => .int (i - j)) := opI0 fun _ _ _ _ _ _ _ q => sub_int q
theorem op_mul : OpR X (binaryOp .Mult) (rI CMul fun i j => .int (i * j)) := opI fun _ _ _ _ _ _ _ hc q => mul_int q hc.ok
theorem op_fdiv : OpR X (binaryOp .FloorDiv) (rI CDiv fun i j => .int (i / j)) := opI fun i j _ _ _ _ _ hc q => by
  have h1 : (0 : Int) < j := hc.1
  have h2 : j < 1073741824 := hc.2
  exact floordiv_int (by omega) (by rw [Int.fdiv_eq_ediv_of_nonneg i (by omega)]; exact q) (.inl (PyProof.noPylong_small (by omega)))
theorem op_mod : OpR X (binaryOp .Mod) (rI (fun _ j => 0 < j) fun i j => .int (i % j)) := opI fun i j _ _ _ _ _ hc q => by
  have h1 : (0 : Int) < j := hc
  exact mod_int' (by omega) (by rw [Int.fmod_eq_emod_of_nonneg i (by omega)]; exact q)
theorem op_pow : OpR X (binaryOp .Pow) (rI CPow fun i j => .int (i ^ j.toNat)) := opI fun _ _ _ _ _ _ _ hc q => pow_int_small hc.1 hc.2.1 hc.2.2 q
end
def scal : V → V → Bool
  | .non, .non => true | .non, .int _ => true | .int _, .non => true | .non, .bl _ => true | .bl _, .non => true | .non, .str _ => true | .str _, .non => true
  | .int _, .int _ => true | .bl _, .bl _ => true | .str _, .str _ => true | .byt _, .byt _ => true
  | .int _, .str _ => true | .str _, .int _ => true | .bl _, .str _ => true | .str _, .bl _ => true
  | _, _ => false
def rEq : R2 := fun x y H Q => scal x y = true ∧ Q (.bl (decide (x = y))) H
def rNe : R2 := fun x y H Q => scal x y = true ∧ Q (.bl (!decide (x = y))) H
theorem dec_int {i j : Int} : decide (V.int i = V.int j) = (i == j) := by
  rw [Bool.eq_iff_iff]
  simp
theorem dec_bl {i j : Bool} : decide (V.bl i = V.bl j) = (i == j) := by
  rw [Bool.eq_iff_iff]
  simp
theorem dec_str {i j : Str} : decide (V.str i = V.str j) = (i == j) := by
  rw [Bool.eq_iff_iff]
  simp
theorem dec_byt {i j : Array UInt8} : decide (V.byt i = V.byt j) = (i.toList == j.toList) := by
  rw [Bool.eq_iff_iff]
  cases i
  cases j
  simp
section
variable {X : Cx} {a b c : Expr} {ta tb tc : TE} {pos : Pos}
theorem fin_bl {pins : List (Addr × Obj)} {σ : St} {H : Hp} {s : Shared} {Q : VK} {k k' : Bool} (I : Inv X pins σ H s) (q : Q (.bl k) H) (e : k = k') : EP X pins σ Q (.bool k') s := by
  subst e
  exact ⟨.bl k, H, I, rfl, q⟩
theorem op_eq : OpR X (compareOp .Eq) rEq := by
  intro pins s σ H x y v u Q I rx ry h
  obtain ⟨hs, q⟩ := h
  cases x with
  | non =>
    cases rx
    cases y with
    | non => cases ry; exact PySem.EqNone.eq_none_none (fin_bl I q (by simp))
    | bl j => cases ry; exact PySem.EqNone.eq_none_bool (fin_bl I q (by simp))
    | int j => obtain ⟨t', rfl⟩ := ry; exact PySem.EqNone.eq_none_int (fin_bl I q (by simp))
    | str j => obtain ⟨t', rfl⟩ := ry; exact PySem.EqNone.eq_none_str (fin_bl I q (by simp))
    | _ => exact absurd (show false = true from hs) Bool.false_ne_true
  | bl i =>
    cases rx
    cases y with
    | non => cases ry; exact PySem.EqNone.eq_bool_none (fin_bl I q (by simp))
    | bl j => cases ry; exact eq_bool (fin_bl I q dec_bl)
    | str j => obtain ⟨t', rfl⟩ := ry; exact PySem.EqMixed.eq_bool_str (fin_bl I q (by simp))
    | _ => exact absurd (show false = true from hs) Bool.false_ne_true
  | int i =>
    obtain ⟨t, rfl⟩ := rx
    cases y with
    | non => cases ry; exact PySem.EqNone.eq_int_none (fin_bl I q (by simp))
    | int j => obtain ⟨t', rfl⟩ := ry; exact eq_int (fin_bl I q dec_int)
    | str j => obtain ⟨t', rfl⟩ := ry; exact PySem.EqMixed.eq_int_str (fin_bl I q (by simp))
    | _ => exact absurd (show false = true from hs) Bool.false_ne_true
  | str i =>
    obtain ⟨t, rfl⟩ := rx
    cases y with
    | non => cases ry; exact PySem.EqNone.eq_str_none (fin_bl I q (by simp))
    | bl j => cases ry; exact PySem.EqMixed.eq_str_bool (fin_bl I q (by simp))
    | int j => obtain ⟨t', rfl⟩ := ry; exact PySem.EqMixed.eq_str_int (fin_bl I q (by simp))
    | str j => obtain ⟨t', rfl⟩ := ry; exact eq_str (fin_bl I q dec_str)
    | _ => exact absurd (show false = true from hs) Bool.false_ne_true
  | byt i =>
    obtain ⟨t, rfl⟩ := rx
    cases y with
    | byt j => obtain ⟨t', rfl⟩ := ry; exact PySem.W.eq_bytes (fin_bl I q dec_byt)
    | _ => exact absurd (show false = true from hs) Bool.false_ne_true
  | _ => cases y <;> exact absurd (show false = true from hs) Bool.false_ne_true
theorem op_ne : OpR X (compareOp .NotEq) rNe := by
  intro pins s σ H x y v u Q I rx ry h
  obtain ⟨hs, q⟩ := h
  cases x with
  | non =>
    cases rx
    cases y with
    | non => cases ry; exact PySem.EqNone.ne_none_none (fin_bl I q (by simp))
    | bl j => cases ry; exact PySem.EqNone.ne_none_bool (fin_bl I q (by simp))
    | int j => obtain ⟨t', rfl⟩ := ry; exact PySem.EqNone.ne_none_int (fin_bl I q (by simp))
    | str j => obtain ⟨t', rfl⟩ := ry; exact PySem.EqNone.ne_none_str (fin_bl I q (by simp))
    | _ => exact absurd (show false = true from hs) Bool.false_ne_true
  | bl i =>
    cases rx
    cases y with
    | non => cases ry; exact PySem.EqNone.ne_bool_none (fin_bl I q (by simp))
    | bl j => cases ry; exact ne_bool (fin_bl I q (congrArg not dec_bl))
    | str j => obtain ⟨t', rfl⟩ := ry; exact PySem.EqMixed.ne_bool_str (fin_bl I q (by simp))
    | _ => exact absurd (show false = true from hs) Bool.false_ne_true
  | int i =>
    obtain ⟨t, rfl⟩ := rx
    cases y with
    | non => cases ry; exact PySem.EqNone.ne_int_none (fin_bl I q (by simp))
    | int j => obtain ⟨t', rfl⟩ := ry; exact ne_int (fin_bl I q (congrArg not dec_int))
    | str j => obtain ⟨t', rfl⟩ := ry; exact PySem.EqMixed.ne_int_str (fin_bl I q (by simp))
    | _ => exact absurd (show false = true from hs) Bool.false_ne_true
  | str i =>
    obtain ⟨t, rfl⟩ := rx
    cases y with
    | non => cases ry; exact PySem.EqNone.ne_str_none (fin_bl I q (by simp))
    | bl j => cases ry; exact PySem.EqMixed.ne_str_bool (fin_bl I q (by simp))
    | int j => obtain ⟨t', rfl⟩ := ry; exact PySem.EqMixed.ne_str_int (fin_bl I q (by simp))
    | str j => obtain ⟨t', rfl⟩ := ry; exact ne_str (fin_bl I q (congrArg not dec_str))
    | _ => exact absurd (show false = true from hs) Bool.false_ne_true
  | byt i =>
    obtain ⟨t, rfl⟩ := rx
    cases y with
    | byt j => obtain ⟨t', rfl⟩ := ry; exact PySem.W.ne_bytes (fin_bl I q (congrArg not dec_byt))
    | _ => exact absurd (show false = true from hs) Bool.false_ne_true
  | _ => cases y <;> exact absurd (show false = true from hs) Bool.false_ne_true
theorem op_lt : OpR X (compareOp .Lt) (rI0 fun i j => .bl (decide (i < j))) := opB0 fun _ _ _ _ _ _ _ q => lt_int q
theorem op_le : OpR X (compareOp .LtE) (rI0 fun i j => .bl (decide (i ≤ j))) := opB0 fun _ _ _ _ _ _ _ q => le_int q
theorem op_gt : OpR X (compareOp .Gt) (rI0 fun i j => .bl (decide (j < i))) := opB0 fun _ _ _ _ _ _ _ q => gt_int q
theorem op_ge : OpR X (compareOp .GtE) (rI0 fun i j => .bl (decide (j ≤ i))) := opB0 fun _ _ _ _ _ _ _ q => ge_int q
theorem op_notN : OpR X (compareOp .IsNot) (fun x y H Q => y = .non ∧ Q (.bl (!decide (x = .non))) H) := by
  intro pins s σ H x y v u Q I rx ry h
  obtain ⟨rfl, q⟩ := h
  cases ry
  refine isnot_none_gen (fin_bl I q ?_)
  cases x <;> first
    | (cases rx; rfl)
    | (obtain ⟨t, rfl⟩ := rx; rfl)
theorem OpR.or {f : Value → Value → Sem Value} {r r' : R2} (h : OpR X f r) (h' : OpR X f r') : OpR X f (fun x y H Q => r x y H Q ∨ r' x y H Q) := by
  intro pins s σ H x y v u Q I rx ry q
  rcases q with q | q
  · exact h pins s σ H x y v u Q I rx ry q
  · exact h' pins s σ H x y v u Q I rx ry q
theorem nomark (b : Expr) {op : CmpOp} (h : op ≠ .In := by decide) (h2 : op ≠ .NotIn := by decide) : behindInMarks op b = false := by
  have e1 : (op == CmpOp.In) = false := by cases op <;> first | rfl | exact absurd rfl h
  have e2 : (op == CmpOp.NotIn) = false := by cases op <;> first | rfl | exact absurd rfl h2
  cases b <;> simp [behindInMarks, e1, e2]
theorem pe_cmpR {op : CmpOp} {r : R2} (ho : OpR X (compareOp op) r) (ha : PE X a ta) (hb : PE X b tb) (hm : behindInMarks op b = false) : PE X (.Compare a [op] [b] pos) (tOp r ta tb) := by
  intro pins s σ H Q I h
  exact wpAny_Compare1 (binT ha hb I h fun v u s2 x y H2 I2 rx ry q => ho pins s2 σ H2 x y v u Q I2 rx ry q) hm
def tTest (t : TE) : TT := fun σ H Q => t σ H fun x H' => ∃ k, x = .bl k ∧ Q k H'
theorem pt_cmpR {op : CmpOp} {r : R2} (ho : OpR X (compareOp op) r) (ha : PE X a ta) (hb : PE X b tb) (hm : behindInMarks op b = false) : PT X (.Compare a [op] [b] pos) (tTest (tOp r ta tb)) := by
  intro pins s σ H Q I h
  refine wpAny_isTrue_Compare1 (thn (ha pins s σ H _ I h) fun v s1 ⟨x, H1, I1, r1, q1⟩ => thn (hb pins s1 σ H1 _ I1 q1) fun u s2 ⟨y, H2, I2, r2, q2⟩ =>
    thn (ho pins s2 σ H2 x y v u _ I2 r1 r2 q2) fun c s3 ⟨z, H3, I3, r3, k, e, q3⟩ => ?_) hm
  subst e
  cases r3
  exact wpAny_truthy_bool ⟨H3, I3, q3⟩
def tChain (r r' : R2) (ta tb tc : TE) : TE := fun σ H Q => ta σ H fun x H1 => tb σ H1 fun y H2 => r x y H2 fun z H3 => ∃ k, z = .bl k ∧
  (if k = true then tc σ H3 fun w' H4 => r' y w' H4 Q else Q (.bl false) H3)
theorem pe_chain {op op' : CmpOp} {r r' : R2} (ho : OpR X (compareOp op) r) (ho' : OpR X (compareOp op') r') (ha : PE X a ta) (hb : PE X b tb) (hc : PE X c tc)
    (hm : lastMarks [op, op'] [b, c] = false := by with_unfolding_all rfl) : PE X (.Compare a [op, op'] [b, c] pos) (tChain r r' ta tb tc) := by
  intro pins s σ H Q I h
  refine Compare_chain (thn (ha pins s σ H _ I h) fun v s1 ⟨x, H1, I1, r1, q1⟩ => chain_link (thn (hb pins s1 σ H1 _ I1 q1) fun u s2 ⟨y, H2, I2, r2, q2⟩ =>
    thn (ho pins s2 σ H2 x y v u _ I2 r1 r2 q2) fun d s3 ⟨z, H3, I3, r3, k, e, q3⟩ => ?_)) hm
  subst e
  cases r3
  refine wpAny_truthy_bool ?_
  cases k with
  | false => exact ite_ff ⟨.bl false, H3, I3, rfl, q3⟩
  | true => exact ite_tt (chain_last (thn (hc pins s3 σ H3 _ I3 q3) fun w' s4 ⟨z', H4, I4, r4, q4⟩ => ho' pins s4 σ H4 y z' u w' Q I4 r2 r4 q4))
def TruV (K : PySem.W.Frag) (x : V) (H : Hp) (k : Bool) : Prop :=
  match x with
  | .non => k = false
  | .bl b => k = b
  | .int i => k = (i != 0)
  | .str y => y.length ≤ sizeLine ∧ k = ((y.length : Int) != 0)
  | .byt y => y.size ≤ sizeLine ∧ k = ((y.size : Int) != 0)
  | .ref p => (∃ xs, SqL K H p xs ∧ k = !xs.isEmpty) ∨ (∃ xs, SqT K H p xs ∧ k = !xs.isEmpty) ∨ ∃ kvs, H p = some (.dK kvs) ∧ k = !kvs.isEmpty
  | _ => False
theorem isEmpty_kv {κ : Type} {kvs : List (κ × V)} {vs : List (κ × Value)} (r : KV kvs vs) : (!vs.isEmpty) = !kvs.isEmpty := by
  cases r <;> rfl
theorem isEmpty_of {xs : List V} {its : List Value} (r : Vals xs its) : (!its.toArray.isEmpty) = !xs.isEmpty := by
  cases r <;> simp
theorem line63 : (sizeLine : Nat) < 2 ^ 63 := by rw [sizeLine_eq]; decide
theorem tru_ok : TruR X (fun x H Q => ∃ k, TruV X.K x H k ∧ Q k H) := by
  intro pins s σ H x v Q I rx h
  obtain ⟨k, e, q⟩ := h
  have hl := line63
  have hs : sizeLine = 16777216 := sizeLine_eq
  cases x with
  | non =>
    cases rx
    have e' : k = false := e
    subst e'
    exact truthy_none ⟨H, I, q⟩
  | bl b =>
    cases rx
    have e' : k = b := e
    subst e'
    exact wpAny_truthy_bool ⟨H, I, q⟩
  | int i =>
    obtain ⟨t, rfl⟩ := rx
    have e' : k = (i != 0) := e
    subst e'
    exact PySem.P.truthy_int ⟨H, I, q⟩
  | str y =>
    obtain ⟨t, rfl⟩ := rx
    obtain ⟨hy, e'⟩ : y.length ≤ sizeLine ∧ k = ((y.length : Int) != 0) := e
    subst e'
    exact PySem.P.truthy_str (by omega) ⟨H, I.tok _, q⟩
  | byt y =>
    obtain ⟨t, rfl⟩ := rx
    obtain ⟨hy, e'⟩ : y.size ≤ sizeLine ∧ k = ((y.size : Int) != 0) := e
    subst e'
    exact PySem.W.truthy_bytes (by omega) ⟨H, I.tok _, q⟩
  | ref p =>
    cases rx
    have e' : (∃ xs, SqL X.K H p xs ∧ k = !xs.isEmpty) ∨ (∃ xs, SqT X.K H p xs ∧ k = !xs.isEmpty) ∨ ∃ kvs, H p = some (.dK kvs) ∧ k = !kvs.isEmpty := e
    rcases e' with ⟨xs, hx, e'⟩ | ⟨xs, hx, e'⟩ | ⟨kvs, hx, e'⟩
    · subst e'
      obtain ⟨its, r, pl, hz⟩ := I.list hx
      have hlen := r.length
      exact wpAny_truthy_list pl.isList (by simp only [List.size_toArray]; omega) ⟨H, I.tok _, by rw [isEmpty_of r]; exact q⟩
    · subst e'
      obtain ⟨its, r, pl, hz⟩ := I.tuple hx
      have hlen := r.length
      exact truthy_tuple pl (by simp only [List.size_toArray]; omega) ⟨H, I.tok _, by rw [isEmpty_of r]; exact q⟩
    · subst e'
      obtain ⟨hz, hS, vs, r, m⟩ : kvs.length ≤ sizeLine ∧ (p == sysModules) = false ∧ ∃ vs, KV kvs vs ∧ s.heap.DictOf (mixKind X.prog X.w) p vs := I.hok p _ hx
      have hlen : kvs.length = vs.length := Paired.length r
      exact wpAny_truthy_dict hS m (by omega) ⟨H, I.tok _, by rw [isEmpty_kv r]; exact q⟩
  | _ => exact (show False from e).elim
theorem pt_truth (ha : PE X a ta) (he : ∀ whole, isTrue a X.env whole = (do let v ← whole; standAt a.pos; holding [v] (truthy v))) :
    PT X a (fun σ H Q => ta σ H fun x H' => ∃ k, TruV X.K x H' k ∧ Q k H') := by
  intro pins s σ H Q I h
  exact isTrue_plain (thn (ha pins s σ H _ I h) fun v s1 ⟨x, H1, I1, r1, q1⟩ => tru_ok pins s1 σ H1 x v Q I1 r1 q1) (he _)
theorem op_add_str : OpR X (binaryOp .Add) (fun x y H Q => ∃ i j, x = .str i ∧ y = .str j ∧ i.length + j.length ≤ sizeLine ∧ Q (.str (i ++ j)) H) := by
  intro pins s σ H x y v u Q I rx ry h
  obtain ⟨i, j, rfl, rfl, hz, q⟩ := h
  obtain ⟨t, rfl⟩ := rx
  obtain ⟨t', rfl⟩ := ry
  exact add_str (fun t' tk => ⟨.str (i ++ j), H, I.tok _, ⟨_, rfl⟩, q⟩) hz
theorem vals1 {x : V} {us : List Value} (r : Vals [x] us) : ∃ u, us = [u] ∧ RelV x u := by
  cases r with
  | cons r1 r2 => cases r2; exact ⟨_, rfl, r1⟩
theorem vals2 {x y : V} {us : List Value} (r : Vals [x, y] us) : ∃ u w', us = [u, w'] ∧ RelV x u ∧ RelV y w' := by
  cases r with
  | cons r1 r2 =>
    cases r2 with
    | cons r3 r4 => cases r4; exact ⟨_, _, rfl, r1, r3⟩
theorem call_max2 (hc : X.calm = true) : CallR X (.builtin "max") (fun xs H Q => ∃ i j, xs = [.int i, .int j] ∧ Q (.int (if j > i then j else i)) H) := by
  intro pins s σ H xs us Q I r h
  obtain ⟨i, j, rfl, q⟩ := h
  obtain ⟨u, w', rfl, ⟨t, rfl⟩, ⟨t', rfl⟩⟩ := vals2 r
  refine max_two_ints (I.ok.hd hc) fun h' tk k => ⟨_, H, I.kept k, ?_, q⟩
  by_cases hj : j > i
  · rw [if_pos hj, if_pos hj]; exact ⟨_, rfl⟩
  · rw [if_neg hj, if_neg hj]; exact ⟨_, rfl⟩
theorem call_min2 (hc : X.calm = true) : CallR X (.builtin "min") (fun xs H Q => ∃ i j, xs = [.int i, .int j] ∧ Q (.int (if j < i then j else i)) H) := by
  intro pins s σ H xs us Q I r h
  obtain ⟨i, j, rfl, q⟩ := h
  obtain ⟨u, w', rfl, ⟨t, rfl⟩, ⟨t', rfl⟩⟩ := vals2 r
  refine min_two_ints (I.ok.hd hc) fun h' tk k => ⟨_, H, I.kept k, ?_, q⟩
  by_cases hj : j < i
  · rw [if_pos hj, if_pos hj]; exact ⟨_, rfl⟩
  · rw [if_neg hj, if_neg hj]; exact ⟨_, rfl⟩
theorem call_int1 : CallR X (.type "int") (fun xs H Q => (∃ i, xs = [.int i] ∧ Q (.int i) H) ∨ ∃ k, xs = [.bl k] ∧ Q (.int (if k then 1 else 0)) H) := by
  intro pins s σ H xs us Q I r h
  rcases h with ⟨i, rfl, q⟩ | ⟨k, rfl, q⟩
  · obtain ⟨u, rfl, t, rfl⟩ := vals1 r
    exact call_int_int ⟨.int i, H, I, ⟨_, rfl⟩, q⟩
  · obtain ⟨u, rfl, r1⟩ := vals1 r
    cases r1
    exact call_int_bool ⟨.int (if k then 1 else 0), H, I.tok _, ⟨_, rfl⟩, q⟩
end
end L2
namespace L2
open PySem PySem.Spec PyProof.Rows
structure ObjM (h : Heap) (x dx C : Addr) (mA : Str → Option Value) : Prop where
  obj : h.get? x = some (PySem.W.instObj C dx)
  ns : h.Ns1 dx mA
  ne : dx ≠ x
theorem lookIn_ns {h : Heap} {dx : Addr} {mA : Str → Option Value} (n : h.Ns1 dx mA) : ∃ od, h.get? dx = some od ∧ ∀ name, PySem.W.lookIn name od = some (mA name) := by
  obtain ⟨o, es, ep, ho, hd, hk, _, hm⟩ := n
  refine ⟨o, ho, fun name => ?_⟩
  have e := hm name
  unfold nsFind findBy at e
  rw [← Array.find?_toList] at e
  unfold PySem.W.lookIn
  rw [hd]
  dsimp only
  split
  · rename_i y q
    rw [q] at e
    exact congrArg some e
  · rename_i q
    rw [q] at e
    have a : es.toList.any (·.refKey) = false := by
      rw [List.any_eq_false]
      intro y hy
      obtain ⟨z, t, hkey⟩ := hk y (Array.mem_toList_iff.mp hy)
      simp [DictEntry.refKey, hkey]
    have a' : ¬ es.toList.any (·.refKey) = true := by rw [a]; exact Bool.false_ne_true
    rw [if_neg a']
    exact congrArg some e
theorem ObjM.look {h : Heap} {x dx C : Addr} {mA : Str → Option Value} (I : ObjM h x dx C mA) : ∃ od, PySem.W.InstAt h x (PySem.W.instObj C dx) C (some od) ∧ ∀ name, PySem.W.lookIn name od = some (mA name) :=
  let ⟨od, ho, hl⟩ := lookIn_ns I.ns
  ⟨od, ⟨I.obj, rfl, rfl, ho⟩, hl⟩
section
variable {prog : Program} {w : World} {A : Around} {E : Value → Shared → Prop} {s : Shared} {K : PySem.W.Frag} {x dx C f : Addr} {mA : Str → Option Value} {name : Str} {v : Value}
end
theorem RelO.some_of {v : V} {o : Option Value} (r : RelO (some v) o) : ∃ u, o = some u ∧ RelV v u := by
  cases o with
  | none => exact (show False from r).elim
  | some u => exact ⟨u, rfl, r⟩
theorem RelO.none_of {o : Option Value} (r : RelO none o) : o = none := by
  cases o with
  | none => rfl
  | some u => exact (show False from r).elim
section
variable {P : Program} {w : World} {H H' : Hp} {h h' : Heap} {a C dx : Addr} {fs fs' : List (Str × V)}
theorem ins_get (hok : HOk P w H h) (e : H a = some (.ins C dx fs)) : ∃ mA, ObjM h a dx C mA ∧ (∀ f, RelO (fs.lookup f) (mA f)) ∧ PySem.Within mA (fs.map (·.1)) ∧ fs.length ≤ 1000 ∧ H dx = some (.own a) := by
  obtain ⟨d, z, ne, ob, mA, n, r, q⟩ := (show ObjOk P w H h a (.ins C dx fs) from hok a _ e)
  exact ⟨mA, ⟨ob, n, ne⟩, r, q, z, d⟩
end
structure Cls (K : PySem.W.Frag) (C : Addr) : Prop where
  pg : PySem.W.plainGet K C Str.empty = true
  hd : PySem.W.hasDictIn K C = true
  po : PySem.W.plainOver K C = true
  sa : PySem.W.findIn K (.ref C) "__setattr__" = some (some (.builtin "object.__setattr__"))
theorem Cls.get {K : PySem.W.Frag} {C : Addr} (c : Cls K C) (f : Str) : PySem.W.plainGet K C f = true := c.pg
section
variable {X : Cx} {pins : List (Addr × Obj)} {σ : St} {H : Hp} {s : Shared} {a C dx : Addr} {fs : List (Str × V)} {f : Str} {v : V} {A : Around} {E : Value → Shared → Prop}
theorem Inv.made (I : Inv X pins σ H s) : Inv X pins σ (upd (upd H s.heap.objs.size (.own (s.heap.objs.size + 1))) (s.heap.objs.size + 1) (.ins C s.heap.objs.size []))
    { s with heap := (s.heap.push PySem.W.emptyDict).push (PySem.W.instObj C s.heap.objs.size) } := by
  have e1 : (s.heap.push PySem.W.emptyDict).get? s.heap.objs.size = some PySem.W.emptyDict := Heap.get?_push_size s.heap rfl
  have e2 : ((s.heap.push PySem.W.emptyDict).push (PySem.W.instObj C s.heap.objs.size)).get? (s.heap.objs.size + 1) = some (PySem.W.instObj C s.heap.objs.size) := by
    have := Heap.get?_push_size (s.heap.push PySem.W.emptyDict) (o := PySem.W.instObj C s.heap.objs.size) rfl
    rwa [Heap.size_push] at this
  have e3 : (s.heap.push PySem.W.emptyDict).Ns s.heap.objs.size (fun _ => none) := ⟨PySem.W.emptyDict, #[], _, e1, rfl, (fun e he => absurd he (by simp)), fun _ => rfl⟩
  have I1 := I.laid (a := s.heap.objs.size) (o := .own (s.heap.objs.size + 1)) (h' := s.heap.push PySem.W.emptyDict) (t' := s.toks) (fun b u q => Heap.get?_push_of_some _ q) (Nat.le_refl _) ⟨_, e1⟩
  refine I1.laid (a := s.heap.objs.size + 1) (o := .ins C s.heap.objs.size []) (t' := s.toks) (fun b u q => Heap.get?_push_of_some _ q) (Nat.le_of_eq (Heap.size_push _ _)) ?_
  have ne : s.heap.objs.size ≠ s.heap.objs.size + 1 := Nat.ne_of_lt (Nat.lt_succ_self _)
  refine ⟨by rw [upd_ne ne, upd_same], Nat.zero_le _, ne, e2, fun _ => none, (Heap.Ns1.of_empty e3).at fun o q => Heap.get?_push_of_some _ q, fun _ => True.intro, fun y hy => absurd rfl hy⟩
end
section
variable {X : Cx} {o e value : Expr} {f : Str} {pos pos' tpos : Pos} {ta tv : TE}
end
section
variable {X : Cx} {pins : List (Addr × Obj)} {σ : St} {H : Hp} {s : Shared} {A : Around} {E : Value → Shared → Prop} {Q : Value → Shared → Prop} {c : Value} {b : Bool}
inductive TyOf (K : PySem.W.Frag) (H : Hp) : V → Value → Prop where
  | non : TyOf K H .non (.type "NoneType")
  | bl (x : Bool) : TyOf K H (.bl x) (.type "bool")
  | int (i : Int) : TyOf K H (.int i) (.type "int")
  | str (x : Str) : TyOf K H (.str x) (.type "str")
  | flt (x : UInt64) : TyOf K H (.flt x) (.type "float")
  | lst {a : Addr} {xs : List V} (e : H a = some (.lst xs)) : TyOf K H (.ref a) (.type "list")
  | frz {a : Addr} {o : Obj} {xs : List V} (e : H a = some (.frz o (.lst xs))) : TyOf K H (.ref a) (.type "list")
  | tup {a : Addr} {xs : List V} (e : H a = some (.tup xs)) : TyOf K H (.ref a) (.type "tuple")
  | dK {a : Addr} {kvs : List (Key × V)} (e : H a = some (.dK kvs)) : TyOf K H (.ref a) (.type "dict")
  | dT {a : Addr} {kvs : List (List Key × V)} (e : H a = some (.dT kvs)) : TyOf K H (.ref a) (.type "dict")
  | ins {a C dx : Addr} {fs : List (Str × V)} (e : H a = some (.ins C dx fs)) (cl : Cls K C) (ha : PySem.W.findIn K (.ref C) "__class__" = some (some (.builtin "object.__class__")))
      (hn : PySem.W.specialIn K (.builtin "object.__class__") "__get__" = some (some (.builtin "getset_descriptor.__get__"))) (htk : PySem.W.takesIn K (.builtin "object.__class__") = some true)
      (hm : PySem.W.mroIn K C (.type "object") = some true) : TyOf K H (.ref a) (.ref C)
theorem isinst_ok {x : V} {u t : Value} (I : Inv X pins σ H s) (rx : RelV x u) (ty : TyOf X.K H x t) (e : PySem.W.kitOne X.K t c = some b) (h : ∀ tk, Q (.bool b) { s with toks := tk }) :
    wpAny (model X.prog X.w) A (call (.builtin "isinstance") [u, c]) Q E s := by
  cases ty with
  | non => cases (show u = Value.none from rx); exact PySem.W.kia_one PySem.W.kitx_none I.kIn True.intro e (fun z => nomatch z) h
  | bl y => cases (show u = Value.bool y from rx); exact PySem.W.kia_one PySem.W.kitx_bool I.kIn True.intro e (fun z => nomatch z) h
  | int i => obtain ⟨t, q⟩ := (show ∃ t, u = Value.int i t from rx); cases q; exact PySem.W.kia_one PySem.W.kitx_int I.kIn True.intro e (fun z => nomatch z) h
  | str y => obtain ⟨t, q⟩ := (show ∃ t, u = Value.str y t from rx); cases q; exact PySem.W.kia_one PySem.W.kitx_str I.kIn True.intro e (fun z => nomatch z) h
  | flt y => obtain ⟨t, q⟩ := (show ∃ t, u = Value.float y t from rx); cases q; exact PySem.W.kia_one PySem.W.kitx_float I.kIn True.intro e (fun z => nomatch z) h
  | @lst a xs ea =>
    cases (show u = Value.ref a from rx)
    obtain ⟨_, _, n, _, h1⟩ := (show ObjOk X.prog X.w H s.heap a (.lst xs) from I.hok a _ ea)
    exact PySem.W.kia_one PySem.W.kitx_list I.kIn ⟨_, h1, rfl⟩ e (fun z => nomatch z) h
  | @frz a ob xs ea =>
    cases (show u = Value.ref a from rx)
    obtain ⟨_, _, _, n, _, h1⟩ := (show ObjOk X.prog X.w H s.heap a (.frz ob (.lst xs)) from I.hok a _ ea)
    exact PySem.W.kia_one PySem.W.kitx_list I.kIn ⟨_, h1, rfl⟩ e (fun z => nomatch z) h
  | @tup a xs ea =>
    cases (show u = Value.ref a from rx)
    obtain ⟨_, _, _, p⟩ := (show ObjOk X.prog X.w H s.heap a (.tup xs) from I.hok a _ ea)
    obtain ⟨o, h1, h2, _⟩ := p
    exact PySem.W.kia_one PySem.W.kitx_tuple I.kIn ⟨o, h1, h2⟩ e (fun z => nomatch z) h
  | @dK a kvs ea =>
    cases (show u = Value.ref a from rx)
    obtain ⟨_, _, vs, _, p⟩ := (show ObjOk X.prog X.w H s.heap a (.dK kvs) from I.hok a _ ea)
    obtain ⟨o, es, ep, h1, h2, _⟩ := p
    exact PySem.W.kia_one PySem.W.kitx_dict I.kIn ⟨o, h1, h2.1⟩ e (fun z => nomatch z) h
  | @dT a kvs ea =>
    cases (show u = Value.ref a from rx)
    obtain ⟨_, _, xs, _, o, es, ep, h1, h2, _⟩ := (show ObjOk X.prog X.w H s.heap a (.dT kvs) from I.hok a _ ea)
    exact PySem.W.kia_one PySem.W.kitx_dict I.kIn ⟨o, h1, h2.1⟩ e (fun z => nomatch z) h
  | @ins a C dx fs ea cl ha hn htk hm =>
    cases (show u = Value.ref a from rx)
    obtain ⟨mA, O, _⟩ := ins_get I.hok ea
    obtain ⟨od, J, _⟩ := O.look
    exact PySem.W.kia_one (PySem.W.kitx_own (cl.get _) cl.hd ha hn htk hm) I.kIn J e (fun z => nomatch z) h
end
end L2
namespace L2
open PySem PySem.Spec PyProof.Rows
structure Room (k : Nat) (A : Around) : Prop where
  hd : A.handled = none
  dp : A.depth + 3 * k + 5 < recursionLimit
  un : A.units + 16 * k + 200 < cLine
theorem Room.mono {j k : Nat} {A : Around} (r : Room k A) (h : j ≤ k) : Room j A := ⟨r.hd, by have := r.dp; omega, by have := r.un; omega⟩
theorem Room.deeper {k : Nat} {A : Around} (r : Room (k + 1) A) (env : Env) : Room k (A.deeper env) :=
  ⟨r.hd, by have := r.dp; show A.depth + 1 + 3 * k + 5 < _; omega, by have := r.un; show A.units + 3 + 16 * k + 200 < _; omega⟩
theorem Room.in1 {k : Nat} {A : Around} (r : Room (k + 1) A) : Room k A.in1 :=
  ⟨r.hd, by have := r.dp; show A.depth + 3 * k + 5 < _; omega, by have := r.un; show A.units + 1 + 16 * k + 200 < _; omega⟩
theorem Room.depth {k : Nat} {A : Around} (r : Room k A) : A.depth < recursionLimit := by have := r.dp; omega
theorem Room.units {k : Nat} {A : Around} (r : Room k A) : A.units + 64 < cLine := by have := r.un; omega
def tNil : TA := fun _ H Q => Q [] H
def tCons (ta : TE) (tr : TA) : TA := fun σ H Q => ta σ H fun x H1 => tr σ H1 fun xs H2 => Q (x :: xs) H2
section
variable {X : Cx} {e : Expr} {es : List Expr} {te : TE} {t : TA} {pos : Pos}
theorem pa_nil : PA X [] tNil := fun _ _ _ _ H Q I h => Calls.spliced_nil ⟨[], H, I, .nil, h⟩
theorem pa_cons (ha : PE X e te) (hr : PA X es t) (hs : starEach (e :: es) X.env = (false, eval e X.env) :: starEach es X.env := by rfl) : PA X (e :: es) (tCons te t) := by
  intro pos pins s σ H Q I h
  rw [hs]
  show wpAny _ _ (spliced ((false, eval e X.env) :: backTo pos (starEach es X.env))) _ _ s
  refine Calls.spliced_cons (thn (ha pins s σ H _ I h) fun u s1 ⟨x, H1, I1, r1, q1⟩ => ?_)
  exact thn (hr pos pins s1 σ H1 _ I1 q1) fun us s2 ⟨xs, H2, I2, r2, q2⟩ => ⟨x :: xs, H2, I2, .cons r1 r2, q2⟩
def tTup (t : TA) : TE := fun σ H Q => t σ H fun xs H1 => xs.length ≤ sizeLine ∧ ∀ p, H1 p = none → Q (.ref p) (upd H1 p (.tup xs))
def tLst (t : TA) : TE := fun σ H Q => t σ H fun xs H1 => xs.length ≤ sizeLine ∧ ∀ p, H1 p = none → Q (.ref p) (upd H1 p (.lst xs))
theorem pe_tup {x1} (h : PA X es t) : PE X (.Tuple es x1 pos) (tTup t) := by
  intro pins s σ H Q I hq
  refine wpAny_Tuple_spliced (thn (h pos pins s σ H _ I hq) fun us s1 ⟨xs, H1, I1, r, z, q⟩ => ⟨by rw [← r.length]; exact z, ?_⟩)
  have hf : H1 s1.heap.objs.size = none := I1.hok.fresh (Nat.le_refl _)
  refine ⟨.ref s1.heap.objs.size, upd H1 s1.heap.objs.size (.tup xs), I1.laid (t' := s1.toks) (fun b u e => Heap.get?_push_of_some _ e) (Nat.le_refl _) ?_, rfl, q _ hf⟩
  exact ⟨z, us, r, ⟨_, Heap.get?_push_size _ rfl, rfl, _, rfl⟩⟩
theorem pe_lst (h : PA X es t) : PE X (.List es pos) (tLst t) := by
  intro pins s σ H Q I hq
  refine wpAny_List_spliced (thn (h pos pins s σ H _ I hq) fun us s1 ⟨xs, H1, I1, r, z, q⟩ => ⟨by rw [← r.length]; exact z, ?_⟩)
  have hf : H1 s1.heap.objs.size = none := I1.hok.fresh (Nat.le_refl _)
  refine ⟨.ref s1.heap.objs.size, upd H1 s1.heap.objs.size (.lst xs), I1.laid (t' := s1.toks) (fun b u e => Heap.get?_push_of_some _ e) (Nat.le_refl _) ?_, rfl, q _ hf⟩
  exact ⟨z, us, 0, r, Heap.get?_push_size _ rfl⟩
end
abbrev Sp := List V → Hp → VK → XK → Prop
abbrev CXT := List Env → Hp → Shared → XK → Value → Shared → Prop
structure Env0 (P : Program) (w : World) (K : PySem.W.Frag) (mg : Str → Option Value) (base : Heap) (A : Around) (outer : List Env) (s : Shared) (H : Hp) : Prop where
  frames : A.frames = some outer
  mod : Mod K mg base
  bs : ∀ b o, base.get? b = some o → s.heap.get? b = some o ∧ H b = none
  bsz : base.objs.size ≤ s.heap.objs.size
  funs : s.heap.FunFrames base outer
  frf : ∀ b ∈ frs outer, H b = none
  hok : HOk P w H s.heap
  bare : AllBare s.gens
def CE (outer : List Env) (P : Program) (w : World) (H : Hp) (s : Shared) (Q : VK) (u : Value) (s' : Shared) : Prop :=
  ∃ v H', s'.os = s.os ∧ AllBare s'.gens ∧ Un (frs outer) [] H H' s.heap s'.heap ∧ HOk P w H' s'.heap ∧ RelV v u ∧ Q v H'
def CR (CX : CXT) (outer : List Env) (P : Program) (w : World) (H : Hp) (s : Shared) (Q : VK) (E : XK) (r : Result) (s' : Shared) : Prop :=
  match r with
  | .ok (.ret u) => CE outer P w H s Q u s'
  | .ok _ => False
  | .error e => CX outer H s E e s'
structure FnOk (P : Program) (w : World) (K : PySem.W.Frag) (mg : Str → Option Value) (base : Heap) (CX : CXT) (k : Nat) (f : Addr) (fd : FuncData) (ps : List Str) (sp : Sp) : Prop where
  len : ∀ vs H Q E, sp vs H Q E → vs.length = ps.length
  run : ∀ (A : Around) (outer : List Env) (s : Shared) (H : Hp) (args : Args) (us : List Value) (vs : List V) (Q : VK) (E : XK), Room k A → Env0 P w K mg base A outer s H → BindsTo s fd args (ps.zip us) → Vals vs us → sp vs H Q E →
    codeAny (model P w) A (.call (.ref f) args) (CR CX outer P w H s Q E) s
theorem FnOk.mono {P : Program} {w : World} {K : PySem.W.Frag} {mg : Str → Option Value} {base : Heap} {CX : CXT} {j k : Nat} {f : Addr} {fd : FuncData} {ps : List Str} {sp : Sp} (F : FnOk P w K mg base CX j f fd ps sp) (h : j ≤ k) :
    FnOk P w K mg base CX k f fd ps sp := ⟨F.len, fun A outer s H args us vs Q E hr => F.run A outer s H args us vs Q E (hr.mono h)⟩
theorem FnOk.imp {P : Program} {w : World} {K : PySem.W.Frag} {mg : Str → Option Value} {base : Heap} {CX : CXT} {k : Nat} {f : Addr} {fd : FuncData} {ps : List Str} {sp sp' : Sp} (F : FnOk P w K mg base CX k f fd ps sp)
    (h : ∀ vs H Q E, sp' vs H Q E → sp vs H Q E) : FnOk P w K mg base CX k f fd ps sp' :=
  ⟨fun vs H Q E q => F.len vs H Q E (h _ _ _ _ q), fun A outer s H args us vs Q E hr he hb hv hs => F.run A outer s H args us vs Q E hr he hb hv (h _ _ _ _ hs)⟩
theorem Env0.in1 {P : Program} {w : World} {K : PySem.W.Frag} {mg : Str → Option Value} {base : Heap} {A : Around} {outer : List Env} {s : Shared} {H : Hp} (e : Env0 P w K mg base A outer s H) :
    Env0 P w K mg base A.in1 outer s H := ⟨e.frames, e.mod, e.bs, e.bsz, e.funs, e.frf, e.hok, e.bare⟩
section
variable {X : Cx} {pins : List (Addr × Obj)} {σ : St} {H : Hp} {s s' : Shared}
theorem Inv.env0 (I : Inv X pins σ H s) : Env0 X.prog X.w X.K X.mg X.base X.A X.stack s H :=
  ⟨I.ok.frames, I.ok.mod, I.bs, Nat.le_trans I.ok.bsz I.sz, I.stack, I.stkFree, I.hok, I.bare⟩
theorem Inv.after {Q : VK} {u : Value} (I : Inv X pins σ H s) (h : CE X.stack X.prog X.w H s Q u s') : EP X pins σ Q u s' := by
  obtain ⟨v, H', os, bare, un, hok, r, q⟩ := h
  obtain ⟨hh, g, d, t, os'⟩ := s'
  obtain rfl : os' = s.os := os
  exact ⟨v, H', I.call (h' := hh) (g' := g) (d' := d) (t' := t) (ch := []) un hok bare (fun b z => absurd z (by simp)), r, q⟩
end
def tCall (sp : Sp) (dvs : List V) (E : XK) (t : TA) : TE := fun σ H Q => t σ H fun vs H1 => sp (vs ++ dvs) H1 Q E
def Binds (K : PySem.W.Frag) (fd : FuncData) (ps : List Str) (ds : List Value) : Prop :=
  ∀ (s : Shared) (us : List Value), K.In s.heap → (us ++ ds).length = ps.length → BindsTo s fd ⟨us, []⟩ (ps.zip (us ++ ds))
theorem Binds.all {K : PySem.W.Frag} {fd : FuncData} {ps : List Str} (h : ∀ us : List Value, us.length = ps.length → bindArgs fd ⟨us, []⟩ = pure (ps.zip us)) : Binds K fd ps [] := fun s us _ hl => by
  rw [List.append_nil] at hl ⊢
  exact .of_eq (h us hl)
def Passes (CX : CXT) (X : Cx) (E : XK) : Prop := ∀ (pins : List (Addr × Obj)) (σ : St) (H : Hp) (s : Shared) (e : Value) (s' : Shared), Inv X pins σ H s → CX X.stack H s E e s' → X.xe e s'
section
variable {X : Cx} {CX : CXT} {k : Nat} {f C : Addr} {fd : FuncData} {ps : List Str} {sp : Sp} {dvs : List V} {ds : List Value} {E : XK} {x m : Str} {p pos apos : Pos} {e o : Expr} {es : List Expr} {ta : TE} {t : TA}
theorem run_fn {pins : List (Addr × Obj)} {σ : St} {H : Hp} {s : Shared} {Q : VK} {us : List Value} {vs : List V} (F : FnOk X.prog X.w X.K X.mg X.base CX k f fd ps sp) (hr : Room k X.A) (hb : Binds X.K fd ps ds) (hd : Vals dvs ds) (hx : Passes CX X E)
    (I : Inv X pins σ H s) (r : Vals vs us) (h : sp (vs ++ dvs) H Q E) : wpAny (model X.prog X.w) X.A (call (.ref f) us) (EP X pins σ Q) X.xe s := by
  have r2 : Vals (vs ++ dvs) (us ++ ds) := r.append hd
  have hl : (us ++ ds).length = ps.length := by rw [← r2.length]; exact F.len _ _ _ _ h
  refine wpAny_call (codeAny_mono (F.run X.A X.stack s H ⟨us, []⟩ (us ++ ds) (vs ++ dvs) Q E hr I.env0 (hb s us I.kIn hl) r2 h) fun r s' hq => ?_)
  cases r with
  | error e => exact hx pins σ H s e s' I hq
  | ok fl =>
    cases fl with
    | ret u => exact I.after hq
    | next => exact False.elim hq
    | brk => exact False.elim hq
    | cont => exact False.elim hq
theorem pe_call (F : FnOk X.prog X.w X.K X.mg X.base CX k f fd ps sp) (hr : Room k X.A) (hg : Gl X x) (hm : X.mg x = some (.ref f)) (hk : PySem.W.keepIn X.K (.ref f) = true) (hb : Binds X.K fd ps ds) (hd : Vals dvs ds) (hx : Passes CX X E)
    (ha : PA X (e :: es) t) (hdb : (x == ("__debug__" : Str)) = false := by decide) (he : starEach (e :: es) X.env = (false, eval e X.env) :: starEach es X.env := by rfl) (hpl : (backTo pos (starEach es X.env)).any (·.1) = false := by rfl) :
    PE X (.Call (.Name x p) (e :: es) [] pos) (tCall sp dvs E t) := by
  intro pins s σ H Q I h
  refine wpAny_Call_Name_kw (ld_glob I hg hm ?_ hdb)
  refine PySem.W.callWith_K (h₀ := X.base) I.ok.mod.kin hk (thn (ha pos pins s σ H _ I h) fun us s1 ⟨vs, H1, I1, r, q⟩ => ⟨I1.kIn, ?_⟩) he hpl
  exact run_fn F hr hb hd hx I1 r q
end
section
variable {X : Cx} {CX : CXT} {k : Nat} {f C : Addr} {fd : FuncData} {ps ks : List Str} {sp : Sp} {E : XK} {x m : Str} {p pos apos kpos : Pos} {e o : Expr} {es : List Expr} {kws : List Keyword} {te ta : TE} {t tk : TA} {nm : Option Str}
variable {g : List Value → List Value → List Value} {gV : List V → List V → List V}
end
structure FnScope (N P : List Str) (sc : Scope) : Prop where
  kind : sc.kind = .function
  co : sc.isCoroutine = false
  gen : sc.isGenerator = false
  nd : N.Nodup
  pre : N.take P.length = P
  par : ∀ x ∈ P, sc.names.lookup x = some .local ∨ sc.names.lookup x = some .cell
  nofree : ∀ y ∈ sc.names, y.2 ≠ .free
theorem bindL_out {kindOf : Str → Option NameKind} {x : Str} : ∀ {binds : List (Str × Value)} {m : Str → Option Value}, (∀ v, (x, v) ∉ binds) → bindL kindOf binds m x = m x
  | [], _, _ => rfl
  | (n, v) :: r, m, h => by
    unfold bindL
    rw [bindL_out fun w hw => h w (List.mem_cons_of_mem _ hw)]
    split
    · have : x ≠ n := by rintro rfl; exact h v List.mem_cons_self
      simp [this]
    · rfl
theorem bindC_out {kindOf : Str → Option NameKind} {x : Str} : ∀ {binds : List (Str × Value)} {m : Str → Option Value}, (∀ v, (x, v) ∉ binds) → bindC kindOf binds m x = m x
  | [], _, _ => rfl
  | (n, v) :: r, m, h => by
    unfold bindC
    rw [bindC_out fun w hw => h w (List.mem_cons_of_mem _ hw)]
    split
    · rfl
    · have : x ≠ n := by rintro rfl; exact h v List.mem_cons_self
      simp [this]
theorem bindL_get {kindOf : Str → Option NameKind} {x : Str} {v : Value} : ∀ {P : List Str} {vs : List Value} {i : Nat} {m : Str → Option Value}, P.Nodup → P[i]? = some x → vs[i]? = some v → kindOf x = some .local →
    bindL kindOf (P.zip vs) m x = some v
  | [], _, _, _, _, h, _, _ => by simp at h
  | _ :: _, [], _, _, _, _, h, _ => by simp at h
  | p :: P, w :: vs, 0, m, nd, h1, h2, hk => by
    simp at h1 h2; subst h1; subst h2
    show bindL kindOf ((p, w) :: P.zip vs) m p = _
    unfold bindL
    rw [bindL_out fun v hv => (List.nodup_cons.mp nd).1 (List.of_mem_zip hv).1, if_pos hk]
    simp
  | p :: P, w :: vs, i + 1, m, nd, h1, h2, hk => by
    show bindL kindOf ((p, w) :: P.zip vs) m x = _
    unfold bindL
    exact bindL_get (i := i) (List.nodup_cons.mp nd).2 (by simpa using h1) (by simpa using h2) hk
theorem bindC_get {kindOf : Str → Option NameKind} {x : Str} {v : Value} : ∀ {P : List Str} {vs : List Value} {i : Nat} {m : Str → Option Value}, P.Nodup → P[i]? = some x → vs[i]? = some v → kindOf x ≠ some .local →
    bindC kindOf (P.zip vs) m x = some v
  | [], _, _, _, _, h, _, _ => by simp at h
  | _ :: _, [], _, _, _, _, h, _ => by simp at h
  | p :: P, w :: vs, 0, m, nd, h1, h2, hk => by
    simp at h1 h2; subst h1; subst h2
    show bindC kindOf ((p, w) :: P.zip vs) m p = _
    unfold bindC
    rw [bindC_out fun v hv => (List.nodup_cons.mp nd).1 (List.of_mem_zip hv).1, if_neg hk]
    simp
  | p :: P, w :: vs, i + 1, m, nd, h1, h2, hk => by
    show bindC kindOf ((p, w) :: P.zip vs) m x = _
    unfold bindC
    exact bindC_get (i := i) (List.nodup_cons.mp nd).2 (by simpa using h1) (by simpa using h2) hk
def start (N : List Str) (vs : List V) : St := vs.map some ++ List.replicate (N.length - vs.length) none
def cxOf (CX : CXT) (P : Program) (w : World) (K : PySem.W.Frag) (mg : Str → Option Value) (base : Heap) (N : List Str) (qual : Str) (scope : Scope) (f : Addr) (cd : Value) (A : Around) (outer : List Env) (s : Shared) (H : Hp) (E : XK) : Cx where
  prog := P
  w := w
  K := K
  mg := mg
  base := base
  A := A.deeper (envOfC qual scope s.heap.objs.size f cd)
  N := N
  s_0 := s
  H_0 := H
  env := envOfC qual scope s.heap.objs.size f cd
  outer := outer
  stack := envOfC qual scope s.heap.objs.size f cd :: outer
  ex := []
  calm := true
  fn := fun _ => true
  pn := []
  xe := fun e s' => wpAny (model P w) (A.deeper (envOfC qual scope s.heap.objs.size f cd)) (leaving (envOfC qual scope s.heap.objs.size f cd) e) (fun _ s'' => CX outer H s E e s'') (fun e' s'' => CX outer H s E e' s'') s'
theorem cell_has {sc : Scope} {n : Nat} {x : Str} (h : sc.names.lookup x = some .cell) : ∃ c, (cellsFrom n sc.names []).lookup x = some c := by
  have q := PySem.W.cellsFrom_some sc.names n [] (.inl h)
  exact Option.isSome_iff_exists.mp q
theorem inv_start {CX : CXT} {P : Program} {w : World} {K : PySem.W.Frag} {mg : Str → Option Value} {base : Heap} {N ps : List Str} {qual : Str} {scope : Scope} {f : Addr} {cd : Value} {A : Around} {outer : List Env} {s s1 : Shared} {H : Hp} {E : XK} {us : List Value} {vs : List V}
    (S : FnScope N ps scope) (hd : A.handled = none) (e0 : Env0 P w K mg base A outer s H) (hl : vs.length = ps.length) (r : Vals vs us)
    (x : InCallC s s.heap.objs.size (bindL (envOfC qual scope s.heap.objs.size f cd).kindOf (ps.zip us) fun _ => none) (cellsFrom (s.heap.objs.size + 1) scope.names []) (bindC (envOfC qual scope s.heap.objs.size f cd).kindOf (ps.zip us) fun _ => none) s1) :
    Inv (cxOf CX P w K mg base N qual scope f cd A outer s H E) [] (start N vs) H s1 := by
  have hpl : ps.length ≤ N.length := by have := congrArg List.length S.pre; rw [List.length_take] at this; omega
  obtain ⟨h1, tk, rfl, hk⟩ := x.done
  have noA : ∀ b : Addr, b ∉ (cxOf CX P w K mg base N qual scope f cd A outer s H E).ex := fun b z => absurd (show b ∈ ([] : List Addr) from z) (by simp)
  refine ⟨⟨e0.mod, S.kind, rfl, rfl, Nat.le_refl _, fun y z c h1 h2 => ?_, fun y hy => ?_, fun y c _ h => ?_, fun _ => hd, Around.frames_deeper e0.frames, .inr ⟨rfl, rfl⟩, fun b z => absurd z (noA b), e0.bs, e0.bsz, fun b _ _ => noA b, fun b z => absurd z (noA b), e0.funs, e0.frf⟩,
    rfl, e0.bare, Un.kept hk, ⟨_, x.toInCall.ns, fun i y v h1 h2 h3 => ?_⟩, fun y c h => ⟨_, x.cell y c h⟩, e0.hok.fresh (Nat.le_refl _), fun y c h => ?_, fun p hp => absurd (show p ∈ ([] : List (Addr × Obj)) from hp) (by simp), e0.hok.kept hk, ?_⟩
  · exact name_of_addr x.apart (PySem.mem_of_lookup h1) (PySem.mem_of_lookup h2)
  · have hy : scope.names.lookup y = some .cell ∨ scope.names.lookup y = some .free := hy
    rcases hy with hy | hy
    · exact cell_has hy
    · exact absurd rfl (S.nofree _ (PySem.mem_of_lookup hy))
  · exact Nat.le_of_lt (x.above y c (PySem.mem_of_lookup h))
  · have hi : i < vs.length := by
      unfold start at h2
      by_cases hi : i < vs.length
      · exact hi
      · rw [List.getElem?_append_right (by simpa using hi)] at h2
        rw [List.getElem?_replicate] at h2
        split at h2 <;> cases h2
    have ha : vs[i]? = some v := by
      unfold start at h2
      rw [List.getElem?_append_left (by simpa using hi), List.getElem?_map] at h2
      cases e : vs[i]? with
      | none => rw [e] at h2; cases h2
      | some a => rw [e] at h2; cases h2; rfl
    obtain ⟨u, hu, rv⟩ := r.get ha
    have hp : ps[i]? = some y := by
      rw [← S.pre, List.getElem?_take_of_lt (by omega)]; exact h1
    have ndP : ps.Nodup := by rw [← S.pre]; exact S.nd.sublist (List.take_sublist _ _)
    refine ⟨u, rv, ?_⟩
    rcases S.par y (List.mem_of_getElem? hp) with k | k
    · exact .inl ⟨k, bindL_get ndP hp hu k⟩
    · obtain ⟨c, e⟩ := cell_has (n := s.heap.objs.size + 1) k
      refine .inr ⟨.inl k, c, e, ?_⟩
      have q := x.cell y c e
      rw [bindC_get ndP hp hu (by show scope.names.lookup y ≠ _; rw [k]; decide)] at q
      exact q
  · exact e0.hok.fresh (Nat.le_of_lt (x.above y c (PySem.mem_of_lookup h)))
  · unfold start
    show _ = N.length
    rw [List.length_append, List.length_map, List.length_replicate]
    omega
theorem fn_of {CX : CXT} {P : Program} {w : World} {K : PySem.W.Frag} {mg : Str → Option Value} {base : Heap} {k : Nat} {f : Addr} {name qual : Str} {params : Arguments} {body : List Stmt} {scope : Scope} {dV kV doc pm cdv ct oc : Value} {an od : Option Addr}
    {osl : Array (Option Value)} {N ps : List Str} {sp : Sp} (lk : K.lookup f = some ⟨oc, od, .func (PySem.W.fnOf name qual params body scope dV kV doc pm an cdv ct), osl⟩) (hcd : PySem.W.codeIn K cdv qual = true) (S : FnScope N ps scope)
    (len : ∀ vs H Q E, sp vs H Q E → vs.length = ps.length)
    (hbody : ∀ (A : Around) (outer : List Env) (s : Shared) (H : Hp) (vs : List V) (Q : VK) (E : XK), Room k (A.deeper (envOfC qual scope s.heap.objs.size f cdv)) → sp vs H Q E →
      ∃ t, PSs (cxOf CX P w K mg base N qual scope f cdv A outer s H E) body t ∧ t { nx := fun _ H' => Q .non H', rt := Q } (start N vs) H) :
    FnOk P w K mg base CX (k + 1) f (PySem.W.fnOf name qual params body scope dV kV doc pm an cdv ct) ps sp := by
  refine ⟨len, fun A outer s H args us vs Q E hr e0 hb r hsp => ?_⟩
  have hl := len _ _ _ _ hsp
  have KX : K.In s.heap := e0.mod.kin.keeps fun b o e => (e0.bs b o e).1
  have lim : s.heap.NoLimit := e0.mod.nolimit.keeps fun b o e => (e0.bs b o e).1
  have hkind : ∀ y ∈ ps.zip us, scope.names.lookup y.1 = some .local ∨ (scope.names.lookup y.1 = some .cell ∧ ((cellsFrom (s.heap.objs.size + 1) scope.names []).lookup y.1).isSome = true) := fun ⟨n, v⟩ hy => by
    rcases S.par n (List.of_mem_zip hy).1 with q | q
    · exact .inl q
    · exact .inr ⟨q, PySem.W.cellsFrom_some _ _ _ (.inl q)⟩
  refine codeAny_call_function hr.depth (KX _ _ lk) rfl S.co S.gen rfl (PySem.W.codeRec_of KX hcd) (hb _ _ _ _ ?_)
  refine wpAny_newFunctionEnv_cells S.kind hkind fun env he s1 x => ?_
  subst he
  refine ⟨lim.keeps x.toInCall.keep, codeAny_func ?_⟩
  obtain ⟨t, ht, hq⟩ := hbody A outer s H vs Q E (hr.deeper _) hsp
  have I : Inv (cxOf CX P w K mg base N qual scope f cdv A outer s H E) [] (start N vs) H s1 := inv_start S hr.hd e0 hl r x
  refine wpAny_mono (ht [] s1 (start N vs) H _ I hq) (fun fl s' hs => ?_) fun e s' hs => hs
  have fin : ∀ {σ' : St} {H' : Hp} {v : V} {u : Value}, Inv (cxOf CX P w K mg base N qual scope f cdv A outer s H E) [] σ' H' s' → RelV v u → Q v H' → CE outer P w H s Q u s' :=
    fun {σ' H' v u} J rv q => ⟨v, H', J.os, J.bare, J.base, J.hok, rv, q⟩
  cases fl with
  | ret u =>
    obtain ⟨v, σ', H', J, rv, q⟩ := hs
    exact fin J rv q
  | next =>
    obtain ⟨σ', H', J, q⟩ := hs
    exact fin (v := V.non) (u := Value.none) J rfl q
  | brk =>
    obtain ⟨_, _, _, q⟩ := hs
    exact False.elim q
  | cont =>
    obtain ⟨_, _, _, q⟩ := hs
    exact False.elim q
end L2
namespace L2
open PySem PySem.Spec PyProof.Rows
section
variable {X : Cx} {x : Str} {p pos : Pos} {e : Expr} {es : List Expr} {t : TA} {id T : String} {r : List V → Hp → VK → Prop}
def tCB (r : List V → Hp → VK → Prop) (t : TA) : TE := fun σ H Q => t σ H fun vs H1 => r vs H1 Q
theorem pe_callB (hc : CallR X (.builtin id) r) (hg : Gl X x) (hm : X.mg x = none) (hv : bootBuiltins x = some (.builtin id)) (ha : PA X (e :: es) t) (hn : x ≠ "__name__" := by decide) (hdb : (x == ("__debug__" : Str)) = false := by decide)
    (he : starEach (e :: es) X.env = (false, eval e X.env) :: starEach es X.env := by rfl) (hpl : (backTo pos (starEach es X.env)).any (·.1) = false := by rfl) : PE X (.Call (.Name x p) (e :: es) [] pos) (tCB r t) := by
  intro pins s σ H Q I h
  refine wpAny_Call_Name_kw (ld_blt I hg hm hv ?_ hn hdb)
  exact PyProof.Rows.callWith_builtin1 (thn (ha pos pins s σ H _ I h) fun us s1 ⟨vs, H1, I1, r1, q1⟩ => hc pins s1 σ H1 vs us Q I1 r1 q1) he hpl
theorem pe_callTy (hc : CallR X (.type T) r) (hg : Gl X x) (hm : X.mg x = none) (hv : bootBuiltins x = some (.type T)) (ha : PA X (e :: es) t) (hn : x ≠ "__name__" := by decide) (hdb : (x == ("__debug__" : Str)) = false := by decide)
    (he : starEach (e :: es) X.env = (false, eval e X.env) :: starEach es X.env := by rfl) (hpl : (backTo pos (starEach es X.env)).any (·.1) = false := by rfl) : PE X (.Call (.Name x p) (e :: es) [] pos) (tCB r t) := by
  intro pins s σ H Q I h
  refine wpAny_Call_Name_kw (ld_blt I hg hm hv ?_ hn hdb)
  exact PyProof.Rows.callWith_type1 (thn (ha pos pins s σ H _ I h) fun us s1 ⟨vs, H1, I1, r1, q1⟩ => hc pins s1 σ H1 vs us Q I1 r1 q1) he hpl
theorem pe_callTy0 (hc : CallR X (.type T) r) (hg : Gl X x) (hm : X.mg x = none) (hv : bootBuiltins x = some (.type T)) (hn : x ≠ "__name__" := by decide) (hdb : (x == ("__debug__" : Str)) = false := by decide) :
    PE X (.Call (.Name x p) [] [] pos) (tCB r tNil) := by
  intro pins s σ H Q I h
  refine wpAny_Call_Name_kw (ld_blt I hg hm hv ?_ hn hdb)
  exact PyProof.Rows.callWith_type0 (hc pins s σ H [] [] Q I .nil h)
end
end L2
namespace HT
open PySem PyProof.Rows
section
open PySem.SeqAt
open PySem.AutoSeq1 (wpAny_loadPart')
open PySem.MeetsSeq PySem.MeetsSeq2 PySem.MeetsSeq3
end
section
variable {prog : Program} {w : World} {A : Around} {E : Value → Shared → Prop} {s : Shared}
theorem cat_tup {t b : Addr} {vs ws : List Value} {Q : Value → Shared → Prop} (ht : IsTup s.heap t vs.toArray) (hb : IsTup s.heap b ws.toArray) (hv : vs ≠ [])
    (h1 : ws = [] → Q (.ref t) s) (h2 : ws ≠ [] → Q (.ref s.heap.objs.size) { s with heap := s.heap.push { cls := .type "tuple", data := .seq (vs ++ ws).toArray } })
    (hsz : vs.length + ws.length ≤ sizeLine) : wpAny (model prog w) A (binaryOp .Add (.ref t) (.ref b)) Q E s := by
  obtain ⟨⟨cls, dd, data, sl⟩, ho, hc, n, hd⟩ := id ht
  obtain ⟨⟨cls2, dd2, data2, sl2⟩, ho2, hc2, n2, hd2⟩ := id hb
  simp only at hc hd hc2 hd2
  subst hc hd hc2 hd2
  have e : vs.toArray ++ ws.toArray = (vs ++ ws).toArray := by simp
  by_cases hw : ws = []
  · exact concat_meets ⟨_, ho, rfl⟩ ⟨_, ho2, rfl⟩ noFill_tuple_add seq_tuple_add PySem.F.slot_tuple_add PySem.F.entry_tuple_add (PySem.F.args_tuple_add_2 _ _)
      (tuple_addW1 t b vs.toArray ws.toArray n n2 dd dd2 sl sl2 (by simpa using hv) (by simp [hw])) ⟨ho, ho2, h1 hw⟩
  · refine concat_meets ⟨_, ho, rfl⟩ ⟨_, ho2, rfl⟩ noFill_tuple_add seq_tuple_add PySem.F.slot_tuple_add PySem.F.entry_tuple_add (PySem.F.args_tuple_add_2 _ _)
      (tuple_addW2 t b vs.toArray ws.toArray n n2 dd dd2 sl sl2 (by simpa using hv) (by simpa using hw) (by rw [List.size_toArray, List.size_toArray]; exact hsz)) ⟨ho, ho2, ?_⟩
    rw [e]
    exact h2 hw
def sIx (n d : Nat) : Option Int → Nat
  | none => d
  | some v => if v < 0 then (v + (n : Int)).toNat else min v.toNat n
theorem sIx_none (n d : Nat) : sIx n d none = d := rfl
theorem sIx_nat (n d k : Nat) : sIx n d (some (k : Int)) = min k n := by
  show (if (k : Int) < 0 then ((k : Int) + (n : Int)).toNat else min (k : Int).toNat n) = min k n
  rw [if_neg (by omega), Int.toNat_natCast]
theorem sIx_le (n d : Nat) (hd : d ≤ n) (o : Option Int) : sIx n d o ≤ n := by
  cases o with
  | none => exact hd
  | some v =>
    show (if v < 0 then (v + (n : Int)).toNat else min v.toNat n) ≤ n
    by_cases hv : v < 0
    · rw [if_pos hv]; omega
    · rw [if_neg hv]; exact Nat.min_le_right _ _
theorem clip_eq (v : Int) (n d : Nat) : (if v < 0 then max (v + (n : Int)) 0 else min v (n : Int)) = ((sIx n d (some v) : Nat) : Int) := by
  show (if v < 0 then max (v + (n : Int)) 0 else min v (n : Int)) = (((if v < 0 then (v + (n : Int)).toNat else min v.toNat n) : Nat) : Int)
  by_cases hv : v < 0
  · simp only [if_pos hv]; omega
  · simp only [if_neg hv]; omega
theorem adjust_gen (lo hi : Option Int) (n : Nat) : Builtin.Slice.sliceAdjust lo hi 1 (n : Int) = (((sIx n 0 lo : Nat) : Int), ((sIx n n hi : Nat) : Int)) := by
  have h1 : ¬ ((1 : Int) < 0) := by omega
  unfold Builtin.Slice.sliceAdjust
  simp only [h1, if_false]
  refine Prod.ext ?_ ?_
  · cases lo with
    | none => rfl
    | some v => exact clip_eq v n 0
  · cases hi with
    | none => rfl
    | some v => exact clip_eq v n n
theorem places_gen (i j : Nat) : Builtin.Slice.slicePlaces (i : Int) (j : Int) 1 = j - i := by
  unfold Builtin.Slice.slicePlaces
  have h1 : (1 : Int) > 0 := by omega
  simp only [h1, if_true, Int.ediv_one]
  split <;> omega
theorem slicePart_ {v : Value} {o : Option Int} {Q : Option Int → Shared → Prop} (p : IsPart v o) (h : Q o s) : wpAny (model prog w) A (Builtin.Slice.slicePartIndex v) Q E s := by
  cases p with
  | none => exact slicePart_none h
  | int i t => exact slicePart_int h
theorem sliceApplied_gen {sl : Addr} {vl vu : Value} {lo hi : Option Int} {n : Nat} {Q : Int × Int × Nat → Shared → Prop} (hs : s.heap.IsSliceOf sl vl vu .none) (pl : IsPart vl lo) (pu : IsPart vu hi)
    (h : Q (((sIx n 0 lo : Nat) : Int), 1, sIx n n hi - sIx n 0 lo) s) : wpAny (model prog w) A (Builtin.Slice.sliceApplied (.ref sl) (pure (n : Int))) Q E s := by
  obtain ⟨os, hos, hcs, hds⟩ := id hs
  unfold Builtin.Slice.sliceApplied Builtin.Slice.sliceFields
  refine wpAny_bind (wpAny_bind (wpAny_field hos hds (x := vl) rfl (wpAny_bind (wpAny_field hos hds (x := vu) rfl (wpAny_bind (wpAny_field hos hds (x := .none) rfl (wpAny_pure ?_)))))))
  refine wpAny_bind (slicePart_none ?_)
  show wpAny _ _ (if ((1 : Int) == 0) = true then _ else _) _ _ s
  rw [if_neg (by decide)]
  refine wpAny_bind (slicePart_ pl (wpAny_bind (slicePart_ pu (wpAny_bind (wpAny_pure ?_)))))
  show wpAny _ _ (match Builtin.Slice.sliceAdjust lo hi 1 (n : Int) with | (lo, hi) => pure (lo, (1 : Int), Builtin.Slice.slicePlaces lo hi 1)) _ _ s
  rw [adjust_gen lo hi n]
  show wpAny _ _ (pure (((sIx n 0 lo : Nat) : Int), (1 : Int), Builtin.Slice.slicePlaces ((sIx n 0 lo : Nat) : Int) ((sIx n n hi : Nat) : Int) 1)) _ _ s
  rw [places_gen]
  exact wpAny_pure h
theorem pick_gen (xs : Array Value) (i k : Nat) : ((List.range k).filterMap fun (m : Nat) => xs[((i : Int) + (m : Int) * 1).toNat]?).toArray = ((xs.toList.drop i).take k).toArray := by
  have e : (fun (m : Nat) => xs[((i : Int) + (m : Int) * 1).toNat]?) = fun m => xs[i + m]? := by
    funext m
    have : ((i : Int) + (m : Int) * 1).toNat = i + m := by omega
    rw [this]
  rw [e]
  have := pick_run xs i k
  rw [List.filterMap_map] at this
  have e2 : ((fun x => xs[x]?) ∘ fun x => i + x) = fun m => xs[i + m]? := rfl
  rw [e2] at this
  rw [this]
theorem getItem_tuple_cut {t sl : Addr} {items : Array Value} {vl vu : Value} {lo hi : Option Int} {Q : Value → Shared → Prop} (ht : IsTup s.heap t items) (hs : s.heap.IsSliceOf sl vl vu .none) (pl : IsPart vl lo) (pu : IsPart vu hi)
    (hw : ¬ (sIx items.size 0 lo = 0 ∧ sIx items.size items.size hi = items.size))
    (h : Q (.ref s.heap.objs.size) { s with heap := s.heap.push { cls := .type "tuple", data := .seq ((items.toList.drop (sIx items.size 0 lo)).take (sIx items.size items.size hi - sIx items.size 0 lo)).toArray } })
    (hsz : items.size ≤ sizeLine) : wpAny (model prog w) A (getItem (.ref t) (.ref sl)) Q E s := by
  have htake : sizeOk (.seq ((items.toList.drop (sIx items.size 0 lo)).take (sIx items.size items.size hi - sIx items.size 0 lo)).toArray) := by
    show ((items.toList.drop (sIx items.size 0 lo)).take (sIx items.size items.size hi - sIx items.size 0 lo)).toArray.size ≤ sizeLine
    rw [List.size_toArray, List.length_take, List.length_drop, Array.length_toList]
    omega
  have hj : sIx items.size items.size hi ≤ items.size := sIx_le _ _ (Nat.le_refl _) hi
  obtain ⟨os, hos, hcs, hds⟩ := id hs
  have hTs : s.TypeIs (.ref sl) "slice" := ⟨os, hos, hcs⟩
  unfold getItem
  try with_reducible refine wpAny_holding ?_
  first | refine wpAny_bind (wpAny_pure ?_) | skip
  refine wpAny_bind (wpAny_sequenceKey ht.typeIs (by decide) ?_)
  refine wpAny_bind (wpAny_callSpecial?_slot (name := Str.ofString "__getitem__") ht.typeIs PyProof.Rows.slot_tuple_getitem
    (wpAny_call_entry PyProof.Rows.slot_tuple_getitem ht.typeIs entry_tuple_getitem ?_ (args_tuple_getitem _ _)))
  show wpAny _ _ (Builtin.Tuple.tupleItemsOf (.ref t) >>= _) _ _ s
  refine wpAny_bind (tupleItemsOf_ ht ?_)
  refine wpAny_bind (wpAny_typeOf hTs ?_)
  rw [if_pos (by decide)]
  refine wpAny_bind (sliceApplied_gen hs pl pu ?_)
  have hno : ¬ ((((sIx items.size 0 lo : Nat) : Int) == 0 && (1 : Int) == 1 && (sIx items.size items.size hi - sIx items.size 0 lo) == items.size) = true) := by
    intro q
    rw [Bool.and_eq_true, Bool.and_eq_true] at q
    have q1 : ((sIx items.size 0 lo : Nat) : Int) = 0 := eq_of_beq q.1.1
    have q2 : sIx items.size items.size hi - sIx items.size 0 lo = items.size := eq_of_beq q.2
    exact hw ⟨by omega, by omega⟩
  show wpAny _ _ (if (((sIx items.size 0 lo : Nat) : Int) == 0 && (1 : Int) == 1 && (sIx items.size items.size hi - sIx items.size 0 lo) == items.size) = true then _ else _) _ _ s
  rw [if_neg hno, pick_gen]
  first
    | exact wpAny_bind (m := Builtin.Tuple.tupleExact _) (wpAny_newObj_type (wpAny_pure ⟨_, rfl, wpAny_pure h⟩) htake)
    | exact wpAny_bind (m := Builtin.Tuple.tupleExact _) (wpAny_newObj_type (wpAny_bind (wpAny_pure (wpAny_pure ⟨_, rfl, wpAny_pure h⟩))) htake)
    | exact wpAny_bind (wpAny_bind (m := Builtin.Tuple.tupleExact _) (wpAny_newObj_type (wpAny_pure (wpAny_pure ⟨_, rfl, wpAny_pure h⟩)) htake))
    | exact wpAny_bind (wpAny_bind (m := Builtin.Tuple.tupleExact _) (wpAny_newObj_type (wpAny_pure ⟨_, rfl, wpAny_pure h⟩) htake))
end
end HT
namespace L2
open PySem PySem.Spec PyProof.Rows
abbrev TO := St → Hp → (Option Int → Hp → Prop) → Prop
def PO (X : Cx) (e : Option Expr) (t : TO) : Prop :=
  ∀ (pins : List (Addr × Obj)) (s : Shared) (σ : St) (H : Hp) (Q : Option Int → Hp → Prop), Inv X pins σ H s → t σ H Q →
    wpAny (model X.prog X.w) X.A (evalPart e X.env) (fun u s' => ∃ o H', Inv X pins σ H' s' ∧ IsPart u o ∧ Q o H') X.xe s
def tNoPart : TO := fun _ H Q => Q none H
def tPart (t : TE) : TO := fun σ H Q => t σ H fun x H1 => ∃ i, x = .int i ∧ Q (some i) H1
section
variable {X : Cx} {e : Expr} {te : TE} {lo hi : Option Expr} {tl th : TO} {pos p2 : Pos}
theorem po_none : PO X none tNoPart := by
  intro pins s σ H Q I h
  rw [evalPart_none]
  exact wpAny_pure ⟨none, H, I, .none, h⟩
theorem po_some (h : PE X e te) : PO X (some e) (tPart te) := by
  intro pins s σ H Q I hw
  rw [evalPart_some]
  refine thn (h pins s σ H _ I hw) fun u s1 ⟨x, H1, I1, r1, q1⟩ => ?_
  obtain ⟨i, rfl, q⟩ := q1
  obtain ⟨t, rfl⟩ := r1
  exact ⟨some i, H1, I1, .int i t, q⟩
def SlR (X : Cx) (r : V → Option Int → Option Int → Hp → VK → Prop) : Prop :=
  ∀ (pins : List (Addr × Obj)) (s : Shared) (σ : St) (H : Hp) (x : V) (v vl vu : Value) (lo hi : Option Int) (sl : Addr) (Q : VK), Inv X pins σ H s → RelV x v → s.heap.IsSliceOf sl vl vu .none → IsPart vl lo → IsPart vu hi → r x lo hi H Q →
    ∃ T id, typeLookup (.type T) "__getitem__" = pure (some (.builtin id)) ∧ s.TypeIs v T ∧ wpAny (model X.prog X.w) X.A (getItem v (.ref sl)) (EP X pins σ Q) X.xe s
theorem SlR.or {r r' : V → Option Int → Option Int → Hp → VK → Prop} (h : SlR X r) (h' : SlR X r') : SlR X (fun x lo hi H Q => r x lo hi H Q ∨ r' x lo hi H Q) := by
  intro pins s σ H x v vl vu lo hi sl Q I rx hs pl pu q
  rcases q with q | q
  · exact h pins s σ H x v vl vu lo hi sl Q I rx hs pl pu q
  · exact h' pins s σ H x v vl vu lo hi sl Q I rx hs pl pu q
def tSl (r : V → Option Int → Option Int → Hp → VK → Prop) (te : TE) (tl th : TO) : TE := fun σ H Q => te σ H fun x H1 => tl σ H1 fun l H2 => th σ H2 fun u H3 => r x l u H3 Q
theorem pe_slice {r : V → Option Int → Option Int → Hp → VK → Prop} (hr : SlR X r) (he : PE X e te) (hl : PO X lo tl) (hu : PO X hi th) : PE X (.Subscript e (.Slice lo hi none p2) pos) (tSl r te tl th) := by
  intro pins s σ H Q I h
  refine Subscript_ (thn (he pins s σ H _ I h) fun v s1 ⟨x, H1, I1, r1, q1⟩ => ?_)
  refine wpAny_Slice (thn (hl pins s1 σ H1 _ I1 q1) fun vl s2 ⟨l, H2, I2, pl, q2⟩ => thn (hu pins s2 σ H2 _ I2 q2) fun vu s3 ⟨u, H3, I3, pu, q3⟩ => ?_)
  rw [evalPart_none]
  refine wpAny_pure ?_
  have I4 : Inv X pins σ H3 { s3 with heap := s3.heap.push { cls := .type "slice", data := .fields #[vl, vu, .none] } } := I3.kept (t' := s3.toks) fun b ob q => Heap.get?_push_of_some _ q
  obtain ⟨T, id, hT, ht, hg⟩ := hr pins { s3 with heap := s3.heap.push { cls := .type "slice", data := .fields #[vl, vu, .none] } } σ H3 x v vl vu l u s3.heap.objs.size Q I4 r1 (Heap.IsSliceOf.new ..) pl pu q3
  show wpAny (model X.prog X.w) X.A (subscriptTail e (.Slice lo hi none p2) v (.ref s3.heap.objs.size)) (EP X pins σ Q) X.xe { s3 with heap := s3.heap.push { cls := .type "slice", data := .fields #[vl, vu, .none] } }
  exact tail_any (ops := [.ref s3.heap.objs.size, v]) ht hT hg (by with_unfolding_all rfl)
def cutV (xs : List V) (lo hi : Option Int) : List V := (xs.drop (HT.sIx xs.length 0 lo)).take (HT.sIx xs.length xs.length hi - HT.sIx xs.length 0 lo)
theorem cutV_length (xs : List V) (lo hi : Option Int) : (cutV xs lo hi).length ≤ xs.length := by
  unfold cutV
  rw [List.length_take, List.length_drop]
  omega
def rSlT (K : PySem.W.Frag) : V → Option Int → Option Int → Hp → VK → Prop := fun x lo hi H Q => ∃ a xs, x = .ref a ∧ SqT K H a xs ∧
  ¬ (HT.sIx xs.length 0 lo = 0 ∧ HT.sIx xs.length xs.length hi = xs.length) ∧ ∀ p, H p = none → Q (.ref p) (upd H p (.tup (cutV xs lo hi)))
theorem sl_tup : SlR X (rSlT X.K) := by
  intro pins s σ H x v vl vu lo hi sl Q I rx hs pl pu h
  obtain ⟨a, xs, rfl, hx, hw, q⟩ := h
  cases rx
  obtain ⟨its, r, ht, hz⟩ := I.tuple hx
  have hlen : its.toArray.size = xs.length := by rw [List.size_toArray]; exact r.length.symm
  refine ⟨"tuple", _, PyProof.Rows.slot_tuple_getitem.lookup, ht.typeIs, ?_⟩
  refine HT.getItem_tuple_cut ht hs pl pu (by rw [hlen]; exact hw) ?_ (by rw [hlen]; exact hz)
  rw [hlen]
  refine ⟨.ref s.heap.objs.size, _, I.laid (t' := s.toks) (o := .tup (cutV xs lo hi)) (fun b ob q => Heap.get?_push_of_some _ q) (Nat.le_refl _) ?_, rfl, q _ (I.hok.fresh (Nat.le_refl _))⟩
  exact ⟨Nat.le_trans (cutV_length xs lo hi) hz, _, (r.drop (HT.sIx xs.length 0 lo)).take (HT.sIx xs.length xs.length hi - HT.sIx xs.length 0 lo), IsTup.new _ _⟩
def rCatT (K : PySem.W.Frag) : R2 := fun x y H Q => ∃ a b xs ys, x = .ref a ∧ y = .ref b ∧ SqT K H a xs ∧ SqT K H b ys ∧ xs ≠ [] ∧ xs.length + ys.length ≤ sizeLine ∧
  (ys = [] → Q (.ref a) H) ∧ (ys ≠ [] → ∀ p, H p = none → Q (.ref p) (upd H p (.tup (xs ++ ys))))
theorem Vals.nil_iff {xs : List V} {us : List Value} (r : Vals xs us) : us = [] ↔ xs = [] := by
  cases r with
  | nil => simp
  | cons _ _ => simp
theorem op_catT : OpR X (binaryOp .Add) (rCatT X.K) := by
  intro pins s σ H x y v u Q I rx ry h
  obtain ⟨a, b, xs, ys, rfl, rfl, ha, hb, hx, hz, q1, q2⟩ := h
  cases rx
  cases ry
  obtain ⟨its, r1, p1, _⟩ := I.tuple ha
  obtain ⟨its2, r2, p2, _⟩ := I.tuple hb
  refine HT.cat_tup p1 p2 (fun z => hx (r1.nil_iff.mp z)) (fun z => ⟨.ref a, H, I, rfl, q1 (r2.nil_iff.mp z)⟩) (fun z => ?_) (by rw [← r1.length, ← r2.length]; exact hz)
  refine ⟨.ref s.heap.objs.size, _, I.laid (t' := s.toks) (o := .tup (xs ++ ys)) (fun b ob q => Heap.get?_push_of_some _ q) (Nat.le_refl _) ?_, rfl, q2 (fun w => z (r2.nil_iff.mpr w)) _ (I.hok.fresh (Nat.le_refl _))⟩
  exact ⟨by rw [List.length_append]; exact hz, _, r1.append r2, IsTup.new _ _⟩
end
end L2
namespace L2
open PySem PySem.Spec PyProof.Rows
def ixN (n : Nat) (i : Int) : Option Nat := if 0 ≤ i then (if i < n then some i.toNat else none) else if -(n : Int) ≤ i then some (i + n).toNat else none
def atI {α : Type} (xs : List α) (i : Int) : Option α := (ixN xs.length i).bind fun j => xs[j]?
theorem ixN_seq {n : Nat} {i : Int} {j : Nat} (h : ixN n i = some j) : seqIndex? i n = some j ∧ j < n ∧ -(n : Int) ≤ i ∧ i < n := by
  unfold ixN at h
  by_cases h0 : 0 ≤ i
  · rw [if_pos h0] at h
    by_cases h1 : i < n
    · rw [if_pos h1] at h
      have e : i.toNat = j := Option.some.inj h
      exact ⟨by rw [seqIndex_of h0 h1, e], by omega, by omega, h1⟩
    · rw [if_neg h1] at h; cases h
  · rw [if_neg h0] at h
    by_cases h1 : -(n : Int) ≤ i
    · rw [if_pos h1] at h
      have e : (i + n).toNat = j := Option.some.inj h
      exact ⟨by rw [seqIndex_neg (by omega) h1, e], by omega, h1, by omega⟩
    · rw [if_neg h1] at h; cases h
theorem atI_get {α : Type} {xs : List α} {i : Int} {v : α} (h : atI xs i = some v) : ∃ j, seqIndex? i xs.length = some j ∧ xs[j]? = some v ∧ j < xs.length ∧ -(xs.length : Int) ≤ i ∧ i < xs.length := by
  unfold atI at h
  cases e : ixN xs.length i with
  | none => rw [e] at h; cases h
  | some j =>
    rw [e] at h
    obtain ⟨h1, h2, h3, h4⟩ := ixN_seq e
    exact ⟨j, h1, h, h2, h3, h4⟩
theorem atI_nat {α : Type} {xs : List α} {j : Nat} {v : α} (h : xs[j]? = some v) : atI xs (j : Int) = some v := by
  have hj : j < xs.length := (List.getElem?_eq_some_iff.mp h).1
  have e : ixN xs.length (j : Int) = some j := by
    unfold ixN
    rw [if_pos (by omega), if_pos (by omega)]; simp
  unfold atI; rw [e]; exact h
def PlainIx (b : Expr) : Prop := ∀ o i, subscripted b false o i = operate [o, i] (getItem o i)
def IxR (X : Cx) (r : R2) : Prop :=
  ∀ (value slice : Expr) (pins : List (Addr × Obj)) (s : Shared) (σ : St) (H : Hp) (x y : V) (v u : Value) (Q : VK), Inv X pins σ H s → RelV x v → RelV y u → r x y H Q →
    subscripted slice false v u = operate [v, u] (getItem v u) → wpAny (model X.prog X.w) X.A (subscriptTail value slice v u) (EP X pins σ Q) X.xe s
def MtR (X : Cx) (id : String) (r : V → List V → Hp → VK → Prop) : Prop :=
  ∀ (pins : List (Addr × Obj)) (s : Shared) (σ : St) (H : Hp) (x : V) (xs : List V) (v : Value) (us : List Value) (Q : VK), Inv X pins σ H s → RelV x v → Vals xs us → r x xs H Q →
    wpAny (model X.prog X.w) X.A (call (.builtin id) (v :: us)) (EP X pins σ Q) X.xe s
section
variable {X : Cx} {a b : Expr} {ta tb : TE} {pos : Pos}
theorem IxR.or {r r' : R2} (h : IxR X r) (h' : IxR X r') : IxR X (fun x y H Q => r x y H Q ∨ r' x y H Q) := by
  intro value slice pins s σ H x y v u Q I rx ry q hs
  rcases q with q | q
  · exact h value slice pins s σ H x y v u Q I rx ry q hs
  · exact h' value slice pins s σ H x y v u Q I rx ry q hs
theorem MtR.or {id : String} {r r' : V → List V → Hp → VK → Prop} (h : MtR X id r) (h' : MtR X id r') : MtR X id (fun x xs H Q => r x xs H Q ∨ r' x xs H Q) := by
  intro pins s σ H x xs v us Q I rx rs q
  rcases q with q | q
  · exact h pins s σ H x xs v us Q I rx rs q
  · exact h' pins s σ H x xs v us Q I rx rs q
theorem pe_ix {r : R2} (hr : IxR X r) (ha : PE X a ta) (hb : PE X b tb) (hs : PlainIx b) : PE X (.Subscript a b pos) (tOp r ta tb) := by
  intro pins s σ H Q I h
  exact Subscript_ (binT ha hb I h fun v u s2 x y H2 I2 rx ry q => hr a b pins s2 σ H2 x y v u Q I2 rx ry q (hs _ _))
def rIxL (K : PySem.W.Frag) : R2 := fun x y H Q => ∃ p xs i v, x = .ref p ∧ y = .int i ∧ SqL K H p xs ∧ atI xs i = some v ∧ Q v H
def rIxT (K : PySem.W.Frag) : R2 := fun x y H Q => ∃ p xs i v, x = .ref p ∧ y = .int i ∧ SqT K H p xs ∧ atI xs i = some v ∧ Q v H
def rIxS : R2 := fun x y H Q => ∃ z i c, x = .str z ∧ y = .int i ∧ z.length ≤ sizeLine ∧ atI z.cps.toList i = some c ∧ Q (.str ⟨#[c]⟩) H
theorem ix_list : IxR X (rIxL X.K) := by
  intro value slice pins s σ H x y v u Q I rx ry h hs
  obtain ⟨p, xs, i, z, rfl, rfl, hq, he, q⟩ := h
  cases rx
  obtain ⟨t, rfl⟩ := ry
  obtain ⟨its, r, pl, hz⟩ := I.list hq
  obtain ⟨j, h1, h2, h3, h4, h5⟩ := atI_get he
  obtain ⟨w, ew, rw'⟩ := r.get h2
  have hl := r.length
  have hn := line63
  have fin : EP X pins σ Q w s := ⟨z, H, I, rw', q⟩
  by_cases h0 : 0 ≤ i
  · have hj : i.toNat = j := by
      rw [seqIndex_of h0 h5] at h1
      exact Option.some.inj h1
    exact item_listR pl.isList h0 (by omega) (by rw [hj]; simpa using ew) fin hs
  · have hj : (i + (its.toArray.size : Int)).toNat = j := by
      rw [seqIndex_neg (by omega) h4] at h1
      rw [List.size_toArray, ← hl]
      exact Option.some.inj h1
    exact subscriptTail_builtinR (x := w) pl.isList.typeIs slot_list_getitem.lookup
      (wpAny_getItem_list_neg (Q := fun r s' => r = w ∧ EP X pins σ Q r s') pl.isList (by omega) (by rw [List.size_toArray] <;> omega) (by omega) (by rw [hj]; simpa using ew) ⟨rfl, fin⟩) hs
theorem ix_tup : IxR X (rIxT X.K) := by
  intro value slice pins s σ H x y v u Q I rx ry h hs
  obtain ⟨p, xs, i, z, rfl, rfl, hq, he, q⟩ := h
  cases rx
  obtain ⟨t, rfl⟩ := ry
  obtain ⟨its, r, pl, hz⟩ := I.tuple hq
  obtain ⟨j, h1, h2, h3, h4, h5⟩ := atI_get he
  obtain ⟨w, ew, rw'⟩ := r.get h2
  have hl := r.length
  have hn := line63
  have fin : EP X pins σ Q w s := ⟨z, H, I, rw', q⟩
  exact subscriptTail_builtinR (x := w) pl.typeIs slot_tuple_getitem.lookup
    (getItem_tuple (j := j) (Q := fun r s' => r = w ∧ EP X pins σ Q r s') pl (by omega) (by omega) (by rw [List.size_toArray, ← hl]; exact h1) (by simpa using ew) ⟨rfl, fin⟩) hs
theorem ix_str : IxR X rIxS := by
  intro value slice pins s σ H x y v u Q I rx ry h hs
  obtain ⟨z, i, c, rfl, rfl, hz, he, q⟩ := h
  obtain ⟨t, rfl⟩ := rx
  obtain ⟨t', rfl⟩ := ry
  obtain ⟨j, h1, h2, h3, h4, h5⟩ := atI_get he
  have hl : z.cps.toList.length = z.length := by simp [Str.length]
  rw [hl] at h1 h4 h5
  have hn := line63
  exact tail_any (typeIs_str s z t) slot_str_getitem.lookup (getItem_str (c := c) (by
    have e1 : decide (i < -(2 ^ 63 : Int)) = false := decide_eq_false (by omega)
    have e2 : decide (i ≥ 2 ^ 63) = false := decide_eq_false (by omega)
    rw [e1, e2, Bool.or_false]) (by rw [h1]; simpa using h2) ⟨.str ⟨#[c]⟩, H, I.tok _, ⟨_, rfl⟩, q⟩) hs
def rIx (K : PySem.W.Frag) : R2 := fun x y H Q => rIxL K x y H Q ∨ rIxT K x y H Q ∨ rIxS x y H Q
theorem ix_seq : IxR X (rIx X.K) := ix_list.or (ix_tup.or ix_str)
theorem mapSeq_set (its : List Value) (n j : Nat) (u : Value) : Obj.mapSeq (·.setIfInBounds j u) { cls := .type "list", data := .seq its.toArray n } = { cls := .type "list", data := .seq (its.set j u).toArray n } := by
  simp [Obj.mapSeq]
theorem Inv.lst {pins : List (Addr × Obj)} {σ : St} {H : Hp} {s : Shared} {p : Addr} {xs : List V} (I : Inv X pins σ H s) (h : H p = some (.lst xs)) :
    ∃ (its : List Value) (n : Nat), Vals xs its ∧ s.heap.get? p = some { cls := .type "list", data := .seq its.toArray n } ∧ xs.length ≤ sizeLine := by
  obtain ⟨z, its, n, r, e⟩ := I.hok p _ h
  exact ⟨its, n, r, e, z⟩
theorem Inv.lstUpd {pins : List (Addr × Obj)} {σ : St} {H : Hp} {s : Shared} {p : Addr} {xs ys : List V} {its its' : List Value} {n n' : Nat} {f : Obj → Obj} (I : Inv X pins σ H s) (h : H p = some (.lst xs))
    (ho : s.heap.get? p = some { cls := .type "list", data := .seq its.toArray n }) (hf : f { cls := .type "list", data := .seq its.toArray n } = { cls := .type "list", data := .seq its'.toArray n' }) (r : Vals ys its') (hz : ys.length ≤ sizeLine) (t : Nat) :
    Inv X pins σ (upd H p (.lst ys)) { s with heap := s.heap.update p f, toks := t } := by
  have e : (s.heap.update p f).get? p = some { cls := .type "list", data := .seq its'.toArray n' } := by
    rw [Heap.get?_update_self f ho (by rw [hf] <;> rfl), hf]
  refine I.write (x := p) (e := p) (by rw [h]; trivial) (.inl rfl) (fun b u hb q => (Heap.get?_update_other _ _ (Ne.symm hb)).trans q) ⟨_, e⟩ ?_
  exact ⟨hz, its', n', r, e⟩
def rSetL : V → V → V → Hp → (Hp → Prop) → Prop := fun o i v H Q => ∃ p xs k j, o = .ref p ∧ i = .int k ∧ H p = some (.lst xs) ∧ ixN xs.length k = some j ∧ Q (upd H p (.lst (xs.set j v)))
theorem set_list : PSet X rSetL := by
  intro pins s σ H o i v ov iv u Q I ro ri rv h
  obtain ⟨p, xs, k, j, rfl, rfl, hp, hj, q⟩ := h
  cases ro
  obtain ⟨t, rfl⟩ := ri
  obtain ⟨its, n, r, ho, hz⟩ := I.lst hp
  obtain ⟨h1, h2, h3, h4⟩ := ixN_seq hj
  have hl := r.length
  have hn := line63
  have I' : Inv X pins σ (upd H p (.lst (xs.set j v))) { s with heap := s.heap.update p (Obj.mapSeq (·.setIfInBounds j u)) } :=
    I.lstUpd hp ho (mapSeq_set its n j u) (r.set rv j) (by rw [List.length_set]; exact hz) s.toks
  by_cases h0 : 0 ≤ k
  · have hk : k.toNat = j := by
      rw [seqIndex_of h0 h4] at h1
      exact Option.some.inj h1
    exact PySem.W.ki_setAt ho h0 (by omega) (by rw [List.size_toArray, ← hl]; exact h4) (by rw [hk]; exact ⟨_, I', q⟩)
  · have hk : (k + (its.toArray.size : Int)).toNat = j := by
      rw [seqIndex_neg (by omega) h3] at h1
      rw [List.size_toArray, ← hl]
      exact Option.some.inj h1
    exact PySem.W.ki_setBack ho (by omega) (by rw [List.size_toArray, ← hl]; exact h3) (by omega) (by rw [hk]; exact ⟨_, I', q⟩)
theorem slice_bounds (lo hi : Option Int) (n : Nat) : (sliceBounds lo hi none n).1 = ((HT.sIx n 0 lo : Nat) : Int) ∧ (sliceBounds lo hi none n).2.1 = ((HT.sIx n n hi : Nat) : Int) ∧ (sliceBounds lo hi none n).2.2 = 1 := by
  refine ⟨?_, ?_, rfl⟩
  · cases lo with
    | none => simp [sliceBounds, HT.sIx]
    | some i =>
      simp only [sliceBounds, HT.sIx, Option.getD_none, show (1 : Int) > 0 by decide, if_true]
      by_cases h : i < 0
      · simp only [h, if_true] <;> omega
      · simp only [h, if_false] <;> omega
  · cases hi with
    | none => simp [sliceBounds, HT.sIx]
    | some i =>
      simp only [sliceBounds, HT.sIx, Option.getD_none, show (1 : Int) > 0 by decide, if_true]
      by_cases h : i < 0
      · simp only [h, if_true] <;> omega
      · simp only [h, if_false] <;> omega
theorem slicePick_cut (its : List Value) (lo hi : Option Int) : slicePick its.toArray lo hi none = ((its.drop (HT.sIx its.length 0 lo)).take (HT.sIx its.length its.length hi - HT.sIx its.length 0 lo)).toArray := by
  obtain ⟨h1, h2, h3⟩ := slice_bounds lo hi its.toArray.size
  unfold slicePick
  rw [h1, h2, h3]
  simp only [sliceRange_one, pick_run, List.size_toArray] <;> rfl
def rSlL (K : PySem.W.Frag) : V → Option Int → Option Int → Hp → VK → Prop := fun x lo hi H Q => ∃ a xs, x = .ref a ∧ SqL K H a xs ∧ ∀ p, H p = none → Q (.ref p) (upd H p (.lst (cutV xs lo hi)))
theorem sl_list : SlR X (rSlL X.K) := by
  intro pins s σ H x v vl vu lo hi sl Q I rx hs pl pu h
  obtain ⟨a, xs, rfl, hx, q⟩ := h
  cases rx
  obtain ⟨its, r, ht, hz⟩ := I.list hx
  have hlen := r.length
  refine ⟨"list", _, slot_list_getitem.lookup, ht.isList.typeIs, ?_⟩
  refine wpAny_getItem_list_slice ht.isList hs pl pu .none (by simp) ?_ (by rw [List.size_toArray] <;> omega)
  rw [slicePick_cut, ← hlen]
  refine ⟨.ref s.heap.objs.size, _, I.laid (t' := s.toks) (o := .lst (cutV xs lo hi)) (fun b ob q => Heap.get?_push_of_some _ q) (Nat.le_refl _) ?_, rfl, q _ (I.hok.fresh (Nat.le_refl _))⟩
  exact ⟨Nat.le_trans (cutV_length xs lo hi) hz, _, 0, (r.drop (HT.sIx xs.length 0 lo)).take (HT.sIx xs.length xs.length hi - HT.sIx xs.length 0 lo), Heap.get?_push_size _ rfl⟩
def flatV : V → Bool
  | .non => true
  | .bl _ => true
  | .int _ => true
  | .str _ => true
  | _ => false
def eqV : V → V → Bool
  | .non, .non => true
  | .bl a, .bl b => a == b
  | .bl a, .int b => (if a then 1 else 0) == b
  | .int a, .bl b => a == (if b then 1 else 0)
  | .int a, .int b => a == b
  | .str a, .str b => a == b
  | _, _ => false
theorem eqAt_V {A : Around} {s : Shared} {y x : V} {u v : Value} (ry : RelV y u) (rx : RelV x v) (fy : flatV y = true) (fx : flatV x = true) : SeqAt.EqAt A s u v (eqV y x) := by
  cases y with
  | non =>
    cases ry
    cases x with
    | non => cases rx; exact SeqAt.EqAt.same _
    | bl b => cases rx; exact SeqAt.EqAt.none_bool b
    | int b => obtain ⟨t, rfl⟩ := rx; exact SeqAt.EqAt.none_int b t
    | str b => obtain ⟨t, rfl⟩ := rx; exact SeqAt.EqAt.none_str b t
    | _ => exact absurd (show false = true from fx) Bool.false_ne_true
  | bl a =>
    cases ry
    cases x with
    | non => cases rx; exact SeqAt.EqAt.bool_none a
    | bl b => cases rx; exact SeqAt.EqAt.bool_bool a b
    | int b => obtain ⟨t, rfl⟩ := rx; exact SeqAt.EqAt.bool_int a b t
    | str b => obtain ⟨t, rfl⟩ := rx; exact SeqAt.EqAt.bool_str a b t
    | _ => exact absurd (show false = true from fx) Bool.false_ne_true
  | int a =>
    obtain ⟨t', rfl⟩ := ry
    cases x with
    | non => cases rx; exact SeqAt.EqAt.int_none a t'
    | bl b => cases rx; exact SeqAt.EqAt.int_bool a t' b
    | int b => obtain ⟨t, rfl⟩ := rx; exact SeqAt.EqAt.int_int a t' b t
    | str b => obtain ⟨t, rfl⟩ := rx; exact SeqAt.EqAt.int_str a t' b t
    | _ => exact absurd (show false = true from fx) Bool.false_ne_true
  | str a =>
    obtain ⟨t', rfl⟩ := ry
    cases x with
    | non => cases rx; exact SeqAt.EqAt.str_none a t'
    | bl b => cases rx; exact SeqAt.EqAt.str_bool a t' b
    | int b => obtain ⟨t, rfl⟩ := rx; exact SeqAt.EqAt.str_int a t' b t
    | str b => obtain ⟨t, rfl⟩ := rx; exact SeqAt.EqAt.str_str a t' b t
    | _ => exact absurd (show false = true from fx) Bool.false_ne_true
  | _ => exact absurd (show false = true from fy) Bool.false_ne_true
def eqU (x : V) (u : Value) : Bool := match u with
  | .none => eqV .non x
  | .bool b => eqV (.bl b) x
  | .int i _ => eqV (.int i) x
  | .str z _ => eqV (.str z) x
  | _ => false
theorem eqU_of {x y : V} {u : Value} (r : RelV y u) (f : flatV y = true) : eqU x u = eqV y x := by
  cases y with
  | non => cases r; rfl
  | bl b => cases r; rfl
  | int i => obtain ⟨t, rfl⟩ := r; rfl
  | str z => obtain ⟨t, rfl⟩ := r; rfl
  | _ => exact absurd (show false = true from f) Bool.false_ne_true
theorem any_eqU {x : V} : ∀ {xs : List V} {us : List Value}, Vals xs us → xs.all flatV = true → us.any (eqU x) = xs.any fun y => eqV y x
  | _, _, .nil, _ => rfl
  | y :: xs, u :: us, .cons r t, f => by
    rw [List.all_cons, Bool.and_eq_true] at f
    rw [List.any_cons, List.any_cons, eqU_of r f.1, any_eqU t f.2]
theorem mem_eqAt {A : Around} {s : Shared} {x : V} {v : Value} (rx : RelV x v) (fx : flatV x = true) : ∀ {xs : List V} {us : List Value}, Vals xs us → xs.all flatV = true → ∀ u ∈ us, SeqAt.EqAt A s u v (eqU x u)
  | _, _, .nil, _ => fun u hu => by cases hu
  | y :: xs, u :: us, .cons r t, f => fun u' hu => by
    rw [List.all_cons, Bool.and_eq_true] at f
    rcases List.mem_cons.mp hu with rfl | hu
    · rw [eqU_of r f.1]; exact eqAt_V r rx f.1 fx
    · exact mem_eqAt rx fx t f.2 u' hu
def inV (x : V) (xs : List V) : Bool := xs.any fun y => eqV y x
def rIn (K : PySem.W.Frag) (neg : Bool) : R2 := fun x y H Q => ∃ p xs, y = .ref p ∧ (SqL K H p xs ∨ SqT K H p xs) ∧ flatV x = true ∧ xs.all flatV = true ∧ Q (.bl (if neg then !inV x xs else inV x xs)) H
theorem op_notIn_seq : OpR X (compareOp .NotIn) (rIn X.K true) := by
  intro pins s σ H x y v u Q I rx ry h
  obtain ⟨p, xs, rfl, hq, fx, fs, q⟩ := h
  cases ry
  rcases hq with hq | hq
  · obtain ⟨its, r, pl, hz⟩ := I.list hq
    refine SeqAt.notIn_listAt (eqU x) pl.isList (fun w hw => mem_eqAt rx fx r fs w (by simpa using hw)) ⟨.bl _, H, I, rfl, ?_⟩
    rw [show its.toArray.any (eqU x) = its.any (eqU x) by simp, any_eqU r fs]
    exact q
  · obtain ⟨its, r, pl, hz⟩ := I.tuple hq
    refine SeqAt.notIn_tupleAt (eqU x) pl (fun w hw => mem_eqAt rx fx r fs w (by simpa using hw)) ⟨.bl _, H, I, rfl, ?_⟩
    rw [show its.toArray.any (eqU x) = its.any (eqU x) by simp, any_eqU r fs]
    exact q
theorem call_len_seq : CallR X (.builtin "len") (fun xs H Q => ∃ p ys, xs = [.ref p] ∧ (SqL X.K H p ys ∨ SqT X.K H p ys) ∧ Q (.int ys.length) H) := by
  intro pins s σ H xs us Q I r h
  obtain ⟨p, ys, rfl, hq, q⟩ := h
  obtain ⟨u, rfl, rx⟩ := vals1 r
  cases rx
  have hn := line63
  rcases hq with hq | hq
  · obtain ⟨its, r', pl, hz⟩ := I.list hq
    have hlen := r'.length
    exact Calls.call_len_list pl.isList (by simp only [List.size_toArray] <;> omega) ⟨.int ys.length, H, I.tok _, ⟨s.toks + 1, by rw [List.size_toArray, hlen]⟩, q⟩
  · obtain ⟨its, r', pl, hz⟩ := I.tuple hq
    have hlen := r'.length
    exact len_tuple pl (by simp only [List.size_toArray] <;> omega) ⟨.int ys.length, H, I.tok _, ⟨s.toks + 1, by rw [List.size_toArray, hlen]⟩, q⟩
theorem call_len_str : CallR X (.builtin "len") (fun xs H Q => ∃ z, xs = [.str z] ∧ z.length ≤ sizeLine ∧ Q (.int z.length) H) := by
  intro pins s σ H xs us Q I r h
  obtain ⟨z, rfl, hz, q⟩ := h
  obtain ⟨u, rfl, t, rfl⟩ := vals1 r
  have hn := line63
  exact len_str (by omega) ⟨.int z.length, H, I.tok _, ⟨_, rfl⟩, q⟩
theorem CallR.or {f : Value} {r r' : List V → Hp → VK → Prop} (h : CallR X f r) (h' : CallR X f r') : CallR X f (fun xs H Q => r xs H Q ∨ r' xs H Q) := by
  intro pins s σ H xs us Q I rs q
  rcases q with q | q
  · exact h pins s σ H xs us Q I rs q
  · exact h' pins s σ H xs us Q I rs q
theorem call_tuple_of : CallR X (.type "tuple") (fun xs H Q => ∃ p ys, xs = [.ref p] ∧ ((SqL X.K H p ys ∧ ∀ l, H l = none → Q (.ref l) (upd H l (.tup ys))) ∨ (SqT X.K H p ys ∧ Q (.ref p) H))) := by
  intro pins s σ H xs us Q I r h
  obtain ⟨p, ys, rfl, h⟩ := h
  obtain ⟨u, rfl, rx⟩ := vals1 r
  cases rx
  rcases h with ⟨hq, q⟩ | ⟨hq, q⟩
  · obtain ⟨its, r', pl, hz⟩ := I.list hq
    have hlen := r'.length
    refine call_tuple_list pl.isList (fun h' kp => ?_) (by simp only [List.size_toArray] <;> omega)
    have I1 : Inv X pins σ H { s with heap := h' } := I.kept (t' := s.toks) kp
    have I2 : Inv X pins σ (upd H h'.objs.size (.tup ys)) { s with heap := h'.push { cls := .type "tuple", data := .seq its.toArray } } :=
      I1.laid (t' := s.toks) (fun b o e => Heap.get?_push_of_some _ e) (Nat.le_refl _) (show ObjOk X.prog X.w _ _ _ (.tup ys) from ⟨hz, its, r', IsTup.new _ _⟩)
    exact ⟨.ref h'.objs.size, _, I2, rfl, q _ (I1.hok.fresh (Nat.le_refl _))⟩
  · obtain ⟨its, r', pl, hz⟩ := I.tuple hq
    exact call_tuple_same pl ⟨.ref p, H, I, rfl, q⟩
def tyV (K : PySem.W.Frag) (T : String) (x : V) (H : Hp) : Prop := match x with
  | .str _ => T = "str"
  | .int _ => T = "int"
  | .ref p => (T = "list" ∧ ∃ xs, SqL K H p xs) ∨ (T = "tuple" ∧ ∃ o, K.lookup p = some o ∧ o.cls = .type "tuple" ∧ o.dict = none) ∨
      (T = "dict" ∧ ((∃ kvs, H p = some (.dK kvs)) ∨ ∃ kvs, H p = some (.dT kvs))) ∨ (T = "set" ∧ ∃ S n, H p = some (.set S n))
  | _ => False
theorem tyV_is {pins : List (Addr × Obj)} {σ : St} {H : Hp} {s : Shared} {T : String} {x : V} {v : Value} (I : Inv X pins σ H s) (r : RelV x v) (ty : tyV X.K T x H) :
    s.TypeIs v T ∧ ∀ a, v = .ref a → ∃ ob, s.heap.get? a = some ob ∧ ob.dict = none := by
  cases x with
  | str z =>
    obtain ⟨t, rfl⟩ := r
    cases (show T = "str" from ty)
    exact ⟨typeIs_str s z t, fun _ e => nomatch e⟩
  | int i =>
    obtain ⟨t, rfl⟩ := r
    cases (show T = "int" from ty)
    exact ⟨typeIs_int s i t, fun _ e => nomatch e⟩
  | ref p =>
    cases r
    rcases ty with ⟨rfl, xs, hq⟩ | ⟨rfl, o, hk, hc, hd⟩ | ⟨rfl, hk⟩ | ⟨rfl, S, n, hk⟩
    · obtain ⟨its, _, pl, _⟩ := I.list hq
      refine ⟨pl.isList.typeIs, fun a e => ?_⟩
      cases e
      obtain ⟨o, n, e, c, hd, _⟩ := pl
      exact ⟨o, e, hd⟩
    · refine ⟨⟨o, I.kIn p o hk, hc⟩, fun a e => ?_⟩
      cases e
      exact ⟨o, I.kIn _ o hk, hd⟩
    · have z : ∃ o, s.heap.get? p = some o ∧ o.ExactDict := by
        rcases hk with ⟨kvs, hk⟩ | ⟨kvs, hk⟩
        · obtain ⟨_, _, _, _, o, _, _, e, ex, _⟩ := I.hok p _ hk
          exact ⟨o, e, ex⟩
        · obtain ⟨_, _, _, _, o, _, _, e, ex, _⟩ := I.hok p _ hk
          exact ⟨o, e, ex⟩
      obtain ⟨o, e, ex⟩ := z
      refine ⟨⟨o, e, ex.1⟩, fun a e2 => ?_⟩
      cases e2
      exact ⟨o, e, ex.2.1⟩
    · obtain ⟨o, _, _, _, e, ex, _⟩ := I.hok p _ hk
      refine ⟨⟨o, e, ex.1⟩, fun a e2 => ?_⟩
      cases e2
      exact ⟨o, e, ex.2.1⟩
  | _ => exact False.elim ty
def tBM (K : PySem.W.Frag) (T : String) (r : V → List V → Hp → VK → Prop) (to : TE) (t : TA) : TE := fun σ H Q => to σ H fun x H1 => tyV K T x H1 ∧ t σ H1 fun xs H2 => r x xs H2 Q
variable {o e : Expr} {es : List Expr} {to : TE} {t : TA} {name : Str} {apos cpos : Pos} {T id : String} {r : V → List V → Hp → VK → Prop}
theorem pe_bm (pa : PlainAttrs T) (slot : Slot T name id) (hty : typeOf (.builtin id) = pure (.type "method_descriptor")) (hm : MtR X id r) (ho : PE X o to) (ha : PA X (e :: es) t)
    (hbase : attributeBase o name X.env (eval o X.env) = eval o X.env := by rfl)
    (hfew : ((backTo cpos (starEach (e :: es) X.env)).all (fun x => !x.1) && (backToKw cpos (keywordEach [] X.env)).all (fun x => x.1.isSome)
      && decide ((e :: es).length + ([] : List Keyword).length + (if ([] : List Keyword).isEmpty then 0 else 1) < 30)) = true := by rfl)
    (hline : (apos.endLine == cpos.line) = true := by rfl) (hs : starEach (e :: es) X.env = (false, eval e X.env) :: starEach es X.env := by rfl) (hplain : (backTo cpos (starEach es X.env)).any (·.1) = false := by rfl) :
    PE X (.Call (.Attribute o name apos) (e :: es) [] cpos) (tBM X.K T r to t) := by
  intro pins s σ H Q I h
  refine wpAny_Call_method_late hbase hfew hline rfl (thn (ho pins s σ H _ I h) fun v s1 ⟨x, H1, I1, r1, ty, q1⟩ => ?_)
  obtain ⟨h1, h2⟩ := tyV_is I1 r1 ty
  refine ⟨T, id, pa, slot, hty, h1, h2, ?_⟩
  have hA := ha cpos pins s1 σ H1 _ I1 q1
  rw [hs] at hA ⊢
  refine Calls.callWith_builtin (by show (false || (backTo cpos (starEach es X.env)).any (·.1)) = false; rw [hplain] <;> rfl) (Calls.evalArgs_plain ?_)
  exact thn hA fun us s2 ⟨vs, H2, I2, r2, q2⟩ => hm pins s2 σ H2 x vs v us Q I2 r1 r2 q2
end
end L2
namespace L2
open PySem PySem.Spec PyProof.Rows
def MtM (X : Cx) (id : String) (r : V → List V → Hp → VK → Prop) : Prop :=
  ∀ (pins : List (Addr × Obj)) (s : Shared) (σ : St) (H : Hp) (x : V) (xs : List V) (v : Value) (us : List Value) (Q : VK), Inv X pins σ H s → RelV x v → Vals xs us → r x xs H Q →
    wpAny (model X.prog X.w) X.A (call (.builtin id) (v :: us)) (EP X pins σ Q) X.xe s
theorem Vals.one : ∀ {x : V} {us : List Value}, Vals [x] us → ∃ u, us = [u] ∧ RelV x u
  | _, _, .cons r .nil => ⟨_, rfl, r⟩
theorem Vals.two : ∀ {x y : V} {us : List Value}, Vals [x, y] us → ∃ u v, us = [u, v] ∧ RelV x u ∧ RelV y v
  | _, _, _, .cons r (.cons q .nil) => ⟨_, _, rfl, r, q⟩
theorem Vals.zero : ∀ {us : List Value}, Vals [] us → us = []
  | _, .nil => rfl
theorem Vals.eraseIdx : ∀ {xs : List V} {us : List Value} (i : Nat), Vals xs us → Vals (xs.eraseIdx i) (us.eraseIdx i)
  | _, _, _, .nil => .nil
  | _, _, 0, .cons _ t => t
  | _, _, i + 1, .cons r t => .cons r (Vals.eraseIdx i t)
theorem Vals.reverse {xs : List V} {us : List Value} (h : Vals xs us) : Vals xs.reverse us.reverse := by
  induction h with
  | nil => exact .nil
  | cons r t ih => rw [List.reverse_cons, List.reverse_cons]; exact Vals.append ih (.cons r .nil)
theorem Vals.rep {xs : List V} {us : List Value} (h : Vals xs us) : ∀ k : Nat, Vals (List.replicate k xs).flatten (List.replicate k us).flatten
  | 0 => .nil
  | k + 1 => by
    rw [List.replicate_succ, List.replicate_succ, List.flatten_cons, List.flatten_cons]
    exact Vals.append h (Vals.rep h k)
theorem len_erase {α : Type} : ∀ (l : List α) (i : Nat), (l.eraseIdx i).length ≤ l.length
  | [], _ => Nat.le_refl _
  | _ :: _, 0 => Nat.le_succ _
  | _ :: r, i + 1 => Nat.succ_le_succ (len_erase r i)
theorem foldl_rep (its : List Value) : ∀ (k : Nat) (acc : List Value),
    List.foldl (fun x1 x2 => x1 ++ x2) acc.toArray (List.replicate k its.toArray) = (acc ++ (List.replicate k its).flatten).toArray
  | 0, acc => by simp
  | k + 1, acc => by
    have e : acc.toArray ++ its.toArray = (acc ++ its).toArray := by simp
    have e2 : (acc ++ its) ++ (List.replicate k its).flatten = acc ++ (List.replicate (k + 1) its).flatten := by
      rw [List.replicate_succ, List.flatten_cons, List.append_assoc]
    rw [← e2, ← foldl_rep its k (acc ++ its), ← e, List.replicate_succ, List.foldl_cons]
section
variable {X : Cx} {pins : List (Addr × Obj)} {σ : St} {H : Hp} {s : Shared} {l b : Addr} {xs ys zs : List V}
theorem Inv.lset {its its' : List Value} {n : Nat} {f : Array Value → Array Value} {t' : Nat} (I : Inv X pins σ H s) (hH : H l = some (.lst xs))
    (e : s.heap.get? l = some { cls := .type "list", data := .seq its.toArray n }) (hf : f its.toArray = its'.toArray) (hv : Vals ys its') (hz : ys.length ≤ sizeLine) :
    Inv X pins σ (upd H l (.lst ys)) { s with heap := s.heap.update l (Obj.mapSeq f), toks := t' } := by
  have q := PySem.IsL.update e f
  rw [hf] at q
  refine I.write (x := l) (e := l) (by rw [hH]; exact trivial) (.inl rfl) (fun b' u hb hu => (Heap.get?_update_other s.heap (Obj.mapSeq f) (Ne.symm hb)).trans hu) ⟨_, q⟩ ?_
  exact ⟨hz, its', _, hv, q⟩
theorem Inv.lnew {its : List Value} {t' : Nat} (I : Inv X pins σ H s) (hv : Vals ys its) (hz : ys.length ≤ sizeLine) :
    Inv X pins σ (upd H s.heap.objs.size (.lst ys)) { s with heap := s.heap.push { cls := .type "list", data := .seq its.toArray }, toks := t' } :=
  I.laid (fun _ _ q => Heap.get?_push_of_some _ q) (Nat.le_refl _) ⟨hz, its, 0, hv, Heap.get?_push_size _ rfl⟩
theorem Inv.fresh (I : Inv X pins σ H s) : H s.heap.objs.size = none := I.hok.fresh (Nat.le_refl _)
theorem Inv.lstM (I : Inv X pins σ H s) (hH : H l = some (.lst xs)) : xs.length ≤ sizeLine ∧ ∃ (its : List Value) (n : Nat), Vals xs its ∧ xs.length = its.length ∧ s.heap.get? l = some { cls := .type "list", data := .seq its.toArray n } := by
  obtain ⟨z, its, n, r, e⟩ := I.hok l _ hH
  exact ⟨z, its, n, r, r.length, e⟩
theorem notLongL {n : Nat} (h : n ≤ sizeLine) : Builtin.List.listTooLong n = false := by
  unfold Builtin.List.listTooLong
  exact decide_eq_false (by omega)
end
section
variable {X : Cx}
def rAppend : V → List V → Hp → VK → Prop := fun x vs H Q => ∃ l xs y, x = .ref l ∧ vs = [y] ∧ H l = some (.lst xs) ∧ xs.length < sizeLine ∧ Q .non (upd H l (.lst (xs ++ [y])))
theorem mt_append : MtM X "list.append" rAppend := by
  intro pins s σ H x vs v us Q I rx rv h
  obtain ⟨l, xs, y, rfl, rfl, hH, hz, q⟩ := h
  cases rx
  obtain ⟨u, rfl, ru⟩ := rv.one
  obtain ⟨z, its, n, r, hl, e⟩ := I.lstM hH
  refine call_meets F.slot_list_append ⟨_, e, rfl⟩ F.entry_list_append (F.args_list_append_2 _ _) (PySem.list_append l its.toArray n u (by rw [List.size_toArray]; omega)) ⟨e, ?_⟩
  refine ⟨.non, _, I.lset (its' := its ++ [u]) hH e (by simp) (r.append (.cons ru .nil)) ?_, rfl, q⟩
  rw [List.length_append, List.length_singleton]
  omega
def rExtend : V → List V → Hp → VK → Prop := fun x vs H Q => ∃ l b xs zs, x = .ref l ∧ vs = [.ref b] ∧ H l = some (.lst xs) ∧ H b = some (.lst zs) ∧ xs.length + zs.length ≤ sizeLine ∧ Q .non (upd H l (.lst (xs ++ zs)))
theorem mt_extend : MtM X "list.extend" rExtend := by
  intro pins s σ H x vs v us Q I rx rv h
  obtain ⟨l, b, xs, zs, rfl, rfl, hH, hB, hz, q⟩ := h
  cases rx
  obtain ⟨u, rfl, ru⟩ := rv.one
  cases ru
  obtain ⟨z, its, n, r, hl, e⟩ := I.lstM hH
  obtain ⟨z2, its2, n2, r2, hl2, e2⟩ := I.lstM hB
  have hsz : its.toArray.size + its2.toArray.size ≤ sizeLine := by rw [List.size_toArray, List.size_toArray]; omega
  have hlong : ¬ (!its.toArray.isEmpty && Builtin.List.listTooLong (its.toArray.size + its2.toArray.size)) = true := by
    rw [notLongL hsz, Bool.and_false]
    exact Bool.false_ne_true
  refine call_meets F.slot_list_extend ⟨_, e, rfl⟩ F.entry_list_extend (F.args_list_extend_2 _ _)
    (AutoSeq1.list_extend_list_list_0 l its.toArray n b its2.toArray n2 hlong (by rw [List.size_toArray]; omega) (by omega)) ⟨e, e2, ?_⟩
  refine ⟨.non, _, I.lset (its' := its ++ its2) hH e (by simp) (r.append r2) ?_, rfl, q⟩
  rw [List.length_append]
  omega
def rPopAt : V → List V → Hp → VK → Prop := fun x vs H Q => ∃ l xs i k y, x = .ref l ∧ vs = [.int i] ∧ H l = some (.lst xs) ∧ -(2 ^ 63) ≤ i ∧ i < 2 ^ 63 ∧ seqIndex? i xs.length = some k ∧ xs[k]? = some y ∧ Q y (upd H l (.lst (xs.eraseIdx k)))
theorem mt_popAt : MtM X "list.pop" rPopAt := by
  intro pins s σ H x vs v us Q I rx rv h
  obtain ⟨l, xs, i, k, y, rfl, rfl, hH, h1, h2, hk, hy, q⟩ := h
  cases rx
  obtain ⟨u, rfl, ru⟩ := rv.one
  obtain ⟨t, rfl⟩ := ru
  obtain ⟨z, its, n, r, hl, e⟩ := I.lstM hH
  obtain ⟨w, hw, rw'⟩ := r.get hy
  refine call_meets F.slot_list_pop ⟨_, e, rfl⟩ F.entry_list_pop (F.args_list_pop_2 _ _)
    (MeetsSeq.list_pop_at l its.toArray n i t k w (fitsIndex_both h1 h2) (by rw [List.size_toArray, ← hl]; exact hk) (by rw [← Array.getElem?_toList]; exact hw) (by rw [List.size_toArray]; omega)) ⟨e, ?_⟩
  refine ⟨y, _, I.lset (its' := its.eraseIdx k) hH e ?_ (r.eraseIdx k) ?_, rw', q⟩
  · show its.toArray.eraseIdxIfInBounds k = (its.eraseIdx k).toArray
    rw [List.eraseIdxIfInBounds_toArray]
  · have := len_erase xs k
    omega
def rCat : R2 := fun x y H Q => ∃ l b xs zs, x = .ref l ∧ y = .ref b ∧ H l = some (.lst xs) ∧ H b = some (.lst zs) ∧ xs.length + zs.length ≤ sizeLine ∧ ∀ p, H p = none → Q (.ref p) (upd H p (.lst (xs ++ zs)))
theorem op_cat : OpR X (binaryOp .Add) rCat := by
  intro pins s σ H x y v u Q I rx ry h
  obtain ⟨l, b, xs, zs, rfl, rfl, hH, hB, hz, q⟩ := h
  cases rx
  cases ry
  obtain ⟨z, its, n, r, hl, e⟩ := I.lstM hH
  obtain ⟨z2, its2, n2, r2, hl2, e2⟩ := I.lstM hB
  refine PySem.P.add_list e e2 ?_ (by rw [List.size_toArray, List.size_toArray]; omega)
  have ea : its.toArray ++ its2.toArray = (its ++ its2).toArray := by simp
  rw [ea]
  exact ⟨.ref _, _, I.lnew (t' := s.toks) (r.append r2) (by rw [List.length_append]; omega), rfl, q _ I.fresh⟩
def rRep : R2 := fun x y H Q => ∃ l k xs, x = .ref l ∧ y = .int k ∧ H l = some (.lst xs) ∧ -(2 ^ 63) ≤ k ∧ k < 2 ^ 63 ∧ xs.length * k.toNat ≤ sizeLine ∧
  ∀ p, H p = none → Q (.ref p) (upd H p (.lst (List.replicate k.toNat xs).flatten))
theorem len_rep {α : Type} (xs : List α) (k : Nat) : (List.replicate k xs).flatten.length = k * xs.length := by
  induction k with
  | zero => simp
  | succ k ih => rw [List.replicate_succ, List.flatten_cons, List.length_append, ih, Nat.succ_mul, Nat.add_comm]
theorem op_rep : OpR X (binaryOp .Mult) rRep := by
  intro pins s σ H x y v u Q I rx ry h
  obtain ⟨l, k, xs, rfl, rfl, hH, h1, h2, hz, q⟩ := h
  cases rx
  obtain ⟨t, rfl⟩ := ry
  obtain ⟨z, its, n, r, hl, e⟩ := I.lstM hH
  have hlen : its.toArray.size * k.toNat ≤ sizeLine := by rw [List.size_toArray, ← hl]; exact hz
  have hcap : ¬ its.toArray.size * k.toNat > (2 ^ 63 - 1) / 8 := by
    have : (sizeLine : Nat) ≤ (2 ^ 63 - 1) / 8 := by decide
    omega
  have hfit : ¬ (!Builtin.List.listFitsIndex k) = true := by
    rw [fitsIndex_both h1 h2]
    exact Bool.false_ne_true
  have hlong : ¬ Builtin.List.listTooLong (its.toArray.size * k.toNat) = true := by
    rw [notLongL hlen]
    exact Bool.false_ne_true
  have hnew : List.foldl (fun x1 x2 => x1 ++ x2) #[] (List.replicate (if its.toArray.isEmpty = true then 0 else k.toNat) its.toArray) = (List.replicate k.toNat its).flatten.toArray := by
    have f0 : ∀ m : Nat, List.foldl (fun x1 x2 => x1 ++ x2) #[] (List.replicate m its.toArray) = (List.replicate m its).flatten.toArray := fun m => by
      have := foldl_rep its m []
      rw [List.nil_append] at this
      exact this
    rw [f0]
    cases its with
    | nil => simp
    | cons a r' => rw [if_neg (by simp)]
  refine wpAny_binaryOp_repeat_ref (T := "list") (U := "int") (by decide) ⟨_, e, rfl⟩ (fun s' => typeIs_int s' k t) noFill_list_mul F.fills_int_mul F.slot_int_rmul repeat_list F.slot_int_index.lookup
    (call_meets F.slot_int_rmul (typeIs_int s k t) F.entry_int_rmul (F.args_int_rmul_2 _ _) (int___rmul___int_list k t l its.toArray n)
      ⟨e, rfl, ⟨_, e, rfl⟩, call_meets F.slot_list_mul ⟨_, e, rfl⟩ F.entry_list_mul (F.args_list_mul_2 _ _) (AutoListH.list___mul___list_int_3 l its.toArray n k t hfit hcap hlong) ⟨e, ?_⟩⟩)
  rw [hnew]
  exact ⟨.ref _, _, I.lnew (t' := s.toks) (r.rep k.toNat) (by rw [len_rep, Nat.mul_comm]; exact hz), rfl, q _ I.fresh⟩
end
section
variable {prog : Program} {w : World} {A : Around} {E : Value → Shared → Prop} {s : Shared}
set_option maxRecDepth 100000 in
end
section
variable {X : Cx}
end
end L2
namespace L2
open PySem PySem.Spec PyProof.Rows
theorem Vals.ints : ∀ {ns : List Int} {us : List Value}, Vals (ns.map V.int) us → IntsAre us ns
  | [], us, h => by
    rw [List.map_nil] at h
    cases h
    exact IntsAre.nil
  | n :: ns, us, h => by
    rw [List.map_cons] at h
    cases h with
    | cons r t =>
      obtain ⟨k, rfl⟩ := r
      exact IntsAre.cons n k (Vals.ints t)
theorem vals_of_ints : ∀ {us : List Value} {ns : List Int}, IntsAre us ns → Vals (ns.map V.int) us
  | _, _, .nil => by rw [List.map_nil]; exact Paired.nil
  | _, _, .cons n t h => by rw [List.map_cons]; exact Paired.cons (show RelV (V.int n) (Value.int n t) from ⟨t, rfl⟩) (vals_of_ints h)
theorem Vals.strs : ∀ {xs : List Str} {us : List Value}, Vals (xs.map V.str) us → StrsAre us xs
  | [], us, h => by
    rw [List.map_nil] at h
    cases h
    exact StrsAre.nil
  | x :: xs, us, h => by
    rw [List.map_cons] at h
    cases h with
    | cons r t =>
      obtain ⟨k, rfl⟩ := r
      exact StrsAre.cons x k (Vals.strs t)
theorem Vals.bls : ∀ {bs : List Bool} {us : List Value}, Vals (bs.map V.bl) us → us = bs.map Value.bool
  | [], us, h => by
    rw [List.map_nil] at h
    cases h
    rfl
  | b :: bs, us, h => by
    rw [List.map_cons] at h
    cases h with
    | cons r t =>
      cases r
      rw [Vals.bls t, List.map_cons]
theorem Vals.ref1 {a : Addr} {us : List Value} (r : Vals [V.ref a] us) : us = [Value.ref a] := by
  cases r with
  | cons r t =>
    cases t
    cases r
    rfl
section
variable {prog : Program} {w : World} {A : Around} {E : Value → Shared → Prop} {s : Shared} {l : Addr} {its : List Value} {ns : List Int} {Q : Value → Shared → Prop}
end
section
variable {X : Cx}
end
section
variable {X : Cx}
end
section
variable {X : Cx}
end
theorem iter_any {prog : Program} {w : World} {A : Around} {E : Value → Shared → Prop} {s : Shared} {l : Addr} {items : Array Value} {Q : Value → Shared → Prop} (hl : s.heap.IsList l items)
    (h : ∀ s₂ : Shared, s₂ = { s with heap := s.heap.push { cls := .type "list_iterator", data := .fields #[.ref l, .int 0 0] } } →
      (s₂.heap.IsListIter s.heap.objs.size l 0 ∧ s₂.heap.IsList l items) → l ≠ s.heap.objs.size → Q (.ref s.heap.objs.size) s₂) : wpAny (model prog w) A (pyIter (.ref l)) Q E s := by
  have hlt : l < s.heap.objs.size := by obtain ⟨_, e, _⟩ := hl; exact Heap.lt_size e
  exact wpAny_pyIter_list hl (h _ rfl ⟨⟨_, Heap.get?_push_size _ rfl, rfl, rfl⟩, hl.push _⟩ (Nat.ne_of_lt hlt))
theorem truth_bools {prog : Program} {w : World} {A : Around} {bs : List Bool} {its : List Value} (e : its = bs.map Value.bool) :
    TruthOf prog w A (fun i v => its.toArray[i]? = some v) (fun i => bs.getD i false) := fun i v s Q E hv hq => by
  have hv' : its[i]? = some v := by simpa using hv
  rw [e, List.getElem?_map] at hv'
  obtain ⟨b, hb, rfl⟩ := Option.map_eq_some_iff.mp hv'
  have hg : bs.getD i false = b := by rw [List.getD_eq_getElem?_getD, hb] <;> rfl
  have hq' : Q (bs.getD i false) s := hq
  rw [hg] at hq'
  exact wpAny_truthy_bool hq'
theorem any_range : ∀ bs : List Bool, (List.range bs.length).any (fun i => bs.getD i false) = bs.any id
  | [] => rfl
  | b :: bs => by
    rw [List.length_cons, List.range_succ_eq_map, List.any_cons, List.any_map, List.any_cons, ← any_range bs]
    all_goals rfl
section
variable {X : Cx}
def rAny (K : PySem.W.Frag) : List V → Hp → VK → Prop := fun vs H Q => ∃ (a : Addr) (bs : List Bool), vs = [V.ref a] ∧ SqL K H a (bs.map V.bl) ∧ Q (.bl (bs.any id)) H
theorem cr_any (hc : X.calm = true) : CallR X (.builtin "any") (rAny X.K) := by
  intro pins s σ H vs us Q I r h
  obtain ⟨a, bs, rfl, hs, q⟩ := h
  obtain ⟨its, rv, hl, _⟩ := I.list hs
  rw [Vals.ref1 r]
  have hb := rv.bls
  refine call_any_walk (iter_any hl.isList fun s₂ e2 st hne => ?_)
  subst e2
  refine ⟨_, _, _, _, _, _, _, rfl, Walks.list (A := X.A.in1) (I.ok.hd hc) _ a hne its.toArray, st, truth_bools hb, fun h' tk hk => ?_⟩
  refine ⟨.bl _, H, I.kept fun b o eo => hk b o (fun hmem => ?_) (Heap.get?_push_of_some _ eo), ?_, q⟩
  · rcases List.mem_cons.mp hmem with e1 | hmem
    · exact absurd (e1 ▸ Heap.lt_size eo) (Nat.lt_irrefl _)
    · cases hmem
  · show Value.bool _ = Value.bool _
    rw [← any_range, hb, List.size_toArray, List.length_map]
end
mutual
inductive Dp (K : PySem.W.Frag) (H : Hp) : V → PyData → Prop
  | non : Dp K H .non .none
  | bl (b : Bool) : Dp K H (.bl b) (.bool b)
  | int (i : Int) : Dp K H (.int i) (.int i)
  | str (x : Str) : Dp K H (.str x) (.str x)
  | lst {a : Addr} {xs : List V} {ds : List PyData} : SqL K H a xs → DpAll K H xs ds → Dp K H (.ref a) (.list ds)
  | tup {a : Addr} {xs : List V} {ds : List PyData} : SqT K H a xs → DpAll K H xs ds → Dp K H (.ref a) (.tuple ds)
inductive DpAll (K : PySem.W.Frag) (H : Hp) : List V → List PyData → Prop
  | nil : DpAll K H [] []
  | cons {v : V} {vs : List V} {d : PyData} {ds : List PyData} : Dp K H v d → DpAll K H vs ds → DpAll K H (v :: vs) (d :: ds)
end
section
variable {X : Cx} {pins : List (Addr × Obj)} {σ : St} {H : Hp} {s : Shared}
mutual
theorem Dp.reads (I : Inv X pins σ H s) : ∀ (d : PyData) (v : V) (u : Value), Dp X.K H v d → RelV v u → ∃ as, Reads s.heap u d as
  | .none, _, _, h, r => by
    cases h
    cases r
    exact ⟨_, Reads.none⟩
  | .bool b, _, _, h, r => by
    cases h
    cases r
    exact ⟨_, Reads.bool b⟩
  | .int i, _, _, h, r => by
    cases h
    obtain ⟨t, rfl⟩ := r
    exact ⟨_, Reads.int i t⟩
  | .str x, _, _, h, r => by
    cases h
    obtain ⟨t, rfl⟩ := r
    exact ⟨_, Reads.str x t⟩
  | .list ds, _, _, h, r => by
    cases h with
    | lst hs ha =>
      cases r
      obtain ⟨its, rv, ⟨o, n, ho, hc, _, hd⟩, _⟩ := I.list hs
      obtain ⟨as, hr⟩ := Dp.readsAll I ds _ its ha rv
      exact ⟨_, Reads.list ho hc hd hr⟩
  | .tuple ds, _, _, h, r => by
    cases h with
    | tup hs ha =>
      cases r
      obtain ⟨its, rv, ⟨o, ho, hc, n, hd⟩, _⟩ := I.tuple hs
      obtain ⟨as, hr⟩ := Dp.readsAll I ds _ its ha rv
      exact ⟨_, Reads.tuple ho hc hd hr⟩
  | .dict _, _, _, h, _ => by cases h
theorem Dp.readsAll (I : Inv X pins σ H s) : ∀ (ds : List PyData) (vs : List V) (us : List Value), DpAll X.K H vs ds → Vals vs us → ∃ as, ReadsAll s.heap us ds as
  | [], _, _, h, r => by
    cases h
    cases r
    exact ⟨_, ReadsAll.nil⟩
  | d :: ds, _, _, h, r => by
    cases h with
    | cons h1 h2 =>
      cases r with
      | cons r1 r2 =>
        obtain ⟨as, q1⟩ := Dp.reads I d _ _ h1 r1
        obtain ⟨bs, q2⟩ := Dp.readsAll I ds _ _ h2 r2
        exact ⟨_, ReadsAll.cons q1 q2⟩
end
end
section
variable {X : Cx}
def rEqD (K : PySem.W.Frag) : R2 := fun x y H Q => ∃ d e, Dp K H x d ∧ Dp K H y e ∧ SeqAt.shaped d = true ∧ SeqAt.shaped e = true ∧ Q (.bl (PyData.eqv d e)) H
def rNeD (K : PySem.W.Frag) : R2 := fun x y H Q => ∃ d e, Dp K H x d ∧ Dp K H y e ∧ SeqAt.shaped d = true ∧ SeqAt.shaped e = true ∧ Q (.bl (!PyData.eqv d e)) H
theorem op_eqD (hu : X.A.units + 64 < cLine) : OpR X (compareOp .Eq) (rEqD X.K) := by
  intro pins s σ H x y v u Q I rx ry h
  obtain ⟨d, e, hd, he, sd, se, q⟩ := h
  obtain ⟨as, r1⟩ := Dp.reads I d x v hd rx
  obtain ⟨bs, r2⟩ := Dp.reads I e y u he ry
  exact SeqAt.compareEq_shaped r1 r2 sd se hu ⟨.bl _, H, I, rfl, q⟩
theorem op_neD (hu : X.A.units + 64 < cLine) : OpR X (compareOp .NotEq) (rNeD X.K) := by
  intro pins s σ H x y v u Q I rx ry h
  obtain ⟨d, e, hd, he, sd, se, q⟩ := h
  obtain ⟨as, r1⟩ := Dp.reads I d x v hd rx
  obtain ⟨bs, r2⟩ := Dp.reads I e y u he ry
  exact SeqAt.compareNe_shaped r1 r2 sd se hu ⟨.bl _, H, I, rfl, q⟩
end
end L2
namespace L2
open PySem PySem.Spec PyProof.Rows
abbrev CellAt (h : Heap) (c : Addr) (v : Option Value) : Prop := h.IsCell c v
def relS (scope sc : Scope) : Scope :=
  { scope with names := scope.names.map fun (n, k) => if (k == .free && sc.kind == .function && sc.names.lookup n == some .cell) then (n, .cell) else (n, k) }
def cloFrom (cells : List (Str × Addr)) : List (Str × NameKind) → List (Str × Addr) → List (Str × Addr)
  | [], acc => acc
  | (n, k) :: r, acc => if k == .free then cloFrom cells r ((n, (cells.lookup n).getD 0) :: acc) else cloFrom cells r acc
theorem closure_loop (env : Env) (f : Str × NameKind → List (Str × Addr) → Sem (ForInStep (List (Str × Addr))))
    (hf : ∀ n k c, f (n, k) c = if k == .free then (do let a ← cellOf env n; pure (.yield ((n, a) :: c))) else pure (.yield c)) :
    ∀ (names : List (Str × NameKind)) (acc : List (Str × Addr)), (∀ y ∈ names, y.2 = .free → ∃ c, env.cells.lookup y.1 = some c) → forIn names acc f = pure (cloFrom env.cells names acc)
  | [], acc, _ => by rw [List.forIn_nil]; rfl
  | (n, k) :: r, acc, h => by
    rw [List.forIn_cons, hf]
    have ih := fun acc => closure_loop env f hf r acc fun y hy => h y (List.mem_cons_of_mem _ hy)
    unfold cloFrom
    by_cases hk : (k == NameKind.free) = true
    · rw [if_pos hk, if_pos hk]
      obtain ⟨c, hc⟩ := h (n, k) List.mem_cons_self (by simpa using hk)
      have e : cellOf env n = pure c := by unfold cellOf; rw [hc]
      rw [e]
      have e2 : (env.cells.lookup n).getD 0 = c := by rw [hc]; rfl
      rw [e2]
      exact ih _
    · rw [if_neg hk, if_neg hk]
      exact ih _
theorem closure_ok {scope : Scope} {env : Env} (h : ∀ y ∈ scope.names, y.2 = .free → ∃ c, env.cells.lookup y.1 = some c) : closureFor scope env = pure (cloFrom env.cells scope.names []) := by
  simp only [closureFor]
  rw [closure_loop env _ (fun n k c => rfl) scope.names [] h]
  rfl
theorem mem_lookup {α : Type} : ∀ {l : List (Str × α)} {n : Str} {c : α}, (n, c) ∈ l → ∃ c', l.lookup n = some c'
  | (k, v) :: r, n, c, h => by
    rw [List.lookup_cons]
    cases hb : n == k with
    | true => exact ⟨_, rfl⟩
    | false =>
      rcases List.mem_cons.mp h with e | h
      · cases e; simp at hb
      · exact mem_lookup h
theorem cloFrom_mem {cells : List (Str × Addr)} : ∀ {names : List (Str × NameKind)} {acc : List (Str × Addr)} {n : Str} {c : Addr}, (n, c) ∈ cloFrom cells names acc → (n, c) ∈ acc ∨ ((n, .free) ∈ names ∧ c = (cells.lookup n).getD 0)
  | [], _, _, _, h => .inl h
  | (m, k) :: r, acc, n, c, h => by
    unfold cloFrom at h
    split at h
    · rename_i hk
      have hk : k = .free := by simpa using hk
      rcases cloFrom_mem h with h | ⟨h1, h2⟩
      · rcases List.mem_cons.mp h with e | h
        · cases e; exact .inr ⟨hk ▸ List.mem_cons_self, rfl⟩
        · exact .inl h
      · exact .inr ⟨List.mem_cons_of_mem _ h1, h2⟩
    · rcases cloFrom_mem h with h | ⟨h1, h2⟩
      · exact .inl h
      · exact .inr ⟨List.mem_cons_of_mem _ h1, h2⟩
theorem cloFrom_acc {cells : List (Str × Addr)} : ∀ {names : List (Str × NameKind)} {acc : List (Str × Addr)} {p : Str × Addr}, p ∈ acc → p ∈ cloFrom cells names acc
  | [], _, _, h => h
  | (m, k) :: r, acc, p, h => by
    unfold cloFrom
    split
    · exact cloFrom_acc (List.mem_cons_of_mem _ h)
    · exact cloFrom_acc h
theorem cloFrom_has {cells : List (Str × Addr)} : ∀ {names : List (Str × NameKind)} {acc : List (Str × Addr)} {n : Str}, (n, .free) ∈ names → (n, (cells.lookup n).getD 0) ∈ cloFrom cells names acc
  | (m, k) :: r, acc, n, h => by
    unfold cloFrom
    rcases List.mem_cons.mp h with e | h
    · cases e
      exact cloFrom_acc List.mem_cons_self
    · split
      · exact cloFrom_has h
      · exact cloFrom_has h
theorem cells_mem : ∀ {names : List (Str × NameKind)} {h : Heap} {acc : List (Str × Addr)} {x : Str} {c : Addr}, (x, c) ∈ cellsFrom h.objs.size names acc →
    (x, c) ∈ acc ∨ ((x, .cell) ∈ names ∧ h.objs.size ≤ c ∧ CellAt (pushCells h names) c none)
  | [], _, _, _, _, h => .inl h
  | (n, k) :: r, h, acc, x, c, hm => by
    unfold cellsFrom at hm
    unfold pushCells
    split at hm
    · rename_i hk
      rw [if_pos hk]
      have hk : k = .cell := by simpa using hk
      rw [← Heap.size_push h { cls := .type "cell", data := .cell none }] at hm
      rcases cells_mem hm with hm | ⟨h1, h2, h3⟩
      · rcases List.mem_cons.mp hm with e | hm
        · cases e
          exact .inr ⟨hk ▸ List.mem_cons_self, Nat.le_refl _, _, pushCells_keeps r _ _ _ (Heap.get?_push_size _ rfl), rfl⟩
        · exact .inl hm
      · rw [Heap.size_push] at h2
        exact .inr ⟨List.mem_cons_of_mem _ h1, Nat.le_of_succ_le h2, h3⟩
    · rename_i hk
      rw [if_neg hk]
      rcases cells_mem hm with hm | ⟨h1, h2, h3⟩
      · exact .inl hm
      · exact .inr ⟨List.mem_cons_of_mem _ h1, h2, h3⟩
theorem cells_acc : ∀ {names : List (Str × NameKind)} {n : Nat} {acc : List (Str × Addr)} {p : Str × Addr}, p ∈ acc → p ∈ cellsFrom n names acc
  | [], _, _, _, h => h
  | (m, k) :: r, n, acc, p, h => by
    unfold cellsFrom
    split
    · exact cells_acc (List.mem_cons_of_mem _ h)
    · exact cells_acc h
theorem cells_has : ∀ {names : List (Str × NameKind)} {n : Nat} {acc : List (Str × Addr)} {x : Str}, (x, .cell) ∈ names → ∃ c, (x, c) ∈ cellsFrom n names acc
  | (m, k) :: r, n, acc, x, h => by
    unfold cellsFrom
    rcases List.mem_cons.mp h with e | h
    · cases e
      exact ⟨n, cells_acc List.mem_cons_self⟩
    · split
      · exact cells_has h
      · exact cells_has h
theorem cells_inj : ∀ {names : List (Str × NameKind)} {h : Heap} {acc : List (Str × Addr)} {x y : Str} {c : Addr}, (∀ p ∈ acc, p.2 < h.objs.size) → (∀ x y c, (x, c) ∈ acc → (y, c) ∈ acc → x = y) →
    (x, c) ∈ cellsFrom h.objs.size names acc → (y, c) ∈ cellsFrom h.objs.size names acc → x = y
  | [], _, _, _, _, _, _, hi, h1, h2 => hi _ _ _ h1 h2
  | (n, k) :: r, h, acc, x, y, c, hl, hi, h1, h2 => by
    unfold cellsFrom at h1 h2
    split at h1
    · rename_i hk
      rw [if_pos hk] at h2
      rw [← Heap.size_push h { cls := .type "cell", data := .cell none }] at h1 h2
      refine cells_inj (h := h.push _) (fun p hp => ?_) (fun x y c a b => ?_) h1 h2
      · rw [Heap.size_push]
        rcases List.mem_cons.mp hp with rfl | hp
        · exact Nat.lt_succ_self _
        · exact Nat.lt_succ_of_lt (hl p hp)
      · rcases List.mem_cons.mp a with e | a <;> rcases List.mem_cons.mp b with e' | b
        · cases e; cases e'; rfl
        · cases e; exact absurd (hl _ b) (Nat.lt_irrefl _)
        · cases e'; exact absurd (hl _ a) (Nat.lt_irrefl _)
        · exact hi _ _ _ a b
    · rename_i hk
      rw [if_neg hk] at h2
      exact cells_inj hl hi h1 h2
theorem newEnv_comp {M : Model} {A : Around} {E : Value → Shared → Prop} {s : Shared} {scope : Scope} {globals : Addr} {closure : List (Str × Addr)} {qual : Str} {func : Option Addr} {code : Value} {around : Env} {builtins : Addr} {Q : Env → Shared → Prop}
    (h : Q (newEnv scope s.heap.objs.size globals (cellsFrom (s.heap.objs.size + 1) scope.names closure) qual func code (some around) builtins)
      { s with heap := pushCells (s.heap.push { cls := .type "dict", data := .dict #[] }) scope.names }) :
    wpAny M A (newFunctionEnv scope globals closure [] qual func code (some around) builtins) Q E s := by
  simp only [newFunctionEnv, Option.isSome_some, if_true]
  refine wpAny_bind (wpAny_alloc ?_)
  refine wpAny_bind (wpAny_layCells _ (fun n k c => rfl) scope.names closure _ _ ?_)
  rw [show ({ s with heap := s.heap.push { cls := .type "dict", data := .dict #[] } } : Shared).heap.objs.size = s.heap.objs.size + 1 from Heap.size_push ..]
  rw [List.forIn_nil]
  exact wpAny_bind (wpAny_pure (wpAny_pure h))
theorem lookup_relS {sc : Scope} : ∀ {names : List (Str × NameKind)} {x : Str} {k : NameKind},
    (names.map fun (n, k) => if (k == NameKind.free && sc.kind == .function && sc.names.lookup n == some .cell) then (n, NameKind.cell) else (n, k)).lookup x = some k →
    ∃ k', names.lookup x = some k' ∧ (k = k' ∨ (k' = .free ∧ k = .cell))
  | [], _, _, h => by simp at h
  | (n, k₀) :: r, x, k, h => by
    have ih := @lookup_relS sc r x k
    have h' : List.lookup x ((if (k₀ == NameKind.free && sc.kind == .function && sc.names.lookup n == some .cell) = true then (n, NameKind.cell) else (n, k₀)) :: (r.map _)) = some k := h
    cases hx : x == n with
    | true =>
      simp only [List.lookup_cons, hx]
      by_cases hc : (k₀ == NameKind.free && sc.kind == .function && sc.names.lookup n == some .cell) = true
      · rw [if_pos hc] at h'
        simp only [List.lookup_cons, hx] at h'
        cases h'
        simp only [Bool.and_eq_true, beq_iff_eq] at hc
        exact ⟨k₀, rfl, .inr ⟨hc.1.1, rfl⟩⟩
      · rw [if_neg hc] at h'
        simp only [List.lookup_cons, hx] at h'
        cases h'
        exact ⟨_, rfl, .inl rfl⟩
    | false =>
      simp only [List.lookup_cons, hx]
      by_cases hc : (k₀ == NameKind.free && sc.kind == .function && sc.names.lookup n == some .cell) = true
      · rw [if_pos hc] at h'
        simp only [List.lookup_cons, hx] at h'
        exact ih h'
      · rw [if_neg hc] at h'
        simp only [List.lookup_cons, hx] at h'
        exact ih h'
structure BlkOk (N : List Str) (sc scope : Scope) (own : List (Str × Nat)) : Prop where
  kind : scope.kind = .function
  uniq : ∀ y ∈ scope.names, scope.names.lookup y.1 = some y.2
  ix : ∀ p ∈ own, N[p.2]? = some p.1
  free : ∀ y ∈ scope.names, y.2 = .free → sc.names.lookup y.1 = some .cell ∨ sc.names.lookup y.1 = some .free
  own : ∀ y ∈ scope.names, y.2 = .local ∨ y.2 = .cell → y.1 ∈ own.map (·.1) ∨ y.1 ∉ N
def wipe (σ : St) : List Nat → St
  | [] => σ
  | v :: vs => (wipe σ vs).set v none
theorem wipe_length (σ : St) : ∀ vs : List Nat, (wipe σ vs).length = σ.length
  | [] => rfl
  | v :: vs => by unfold wipe; rw [List.length_set, wipe_length σ vs]
theorem wipe_some {σ : St} {i : Nat} {x : V} : ∀ {vs : List Nat}, (wipe σ vs)[i]? = some (some x) → σ[i]? = some (some x) ∧ i ∉ vs
  | [], h => ⟨h, by simp⟩
  | v :: vs, h => by
    unfold wipe at h
    by_cases hi : v = i
    · subst hi
      by_cases hv : v < (wipe σ vs).length
      · rw [List.getElem?_set_self hv] at h; cases h
      · rw [List.getElem?_eq_none (by simpa using hv)] at h; cases h
    · rw [List.getElem?_set_ne hi] at h
      obtain ⟨h1, h2⟩ := wipe_some h
      exact ⟨h1, by simp only [List.mem_cons, not_or]; exact ⟨fun e => hi e.symm, h2⟩⟩
abbrev Cx.blk (X : Cx) (s : Shared) (H : Hp) (scope : Scope) (cenv : Env) (fp : List Addr) : Cx := { X with s_0 := s, H_0 := H, env := cenv, outer := X.stack, ex := fp, fn := fun x => scope.names.lookup x == some .cell, pn := [], xe := fun _ _ => False }
section
variable {X : Cx} {pins : List (Addr × Obj)} {σ : St} {H : Hp} {s : Shared}
theorem block_start {scope : Scope} {own : List (Str × Nat)} {fp : List Addr} (I : Inv X pins σ H s) (ok : BlkOk X.N X.env.scope scope own) (hN : X.N.Nodup) (hfp : ∀ b ∈ fp, FpOk X pins H b ∧ b < s.heap.objs.size) :
    Inv (X.blk s H scope (compEnvC scope (cellsFrom (s.heap.objs.size + 1) scope.names (cloFrom X.env.cells scope.names [])) s.heap.objs.size X.env) fp) [] (wipe σ (own.map (·.2))) H { s with heap := pushCells (s.heap.push { cls := .type "dict", data := .dict #[] }) scope.names } := by
  have hfree : ∀ y ∈ scope.names, y.2 = .free → ∃ c, X.env.cells.lookup y.1 = some c := fun y hy e => by
    rcases ok.free y hy e with k | k
    · exact I.ok.has _ (.inl k)
    · exact I.ok.has _ (.inr k)
  generalize hcenv : compEnvC scope (cellsFrom (s.heap.objs.size + 1) scope.names (cloFrom X.env.cells scope.names [])) s.heap.objs.size X.env = cenv
  have kp : ∀ b o, s.heap.get? b = some o → (pushCells (s.heap.push { cls := .type "dict", data := .dict #[] }) scope.names).get? b = some o := fun b o e => pushCells_keeps _ _ _ _ (Heap.get?_push_of_some _ e)
  have hL : cenv.locals = s.heap.objs.size := by rw [← hcenv]; rfl
  have hcl : cenv.cells = cellsFrom (s.heap.objs.size + 1) scope.names (cloFrom X.env.cells scope.names []) := by rw [← hcenv]; rfl
  have hsc : cenv.scope = relS scope X.env.scope := by rw [← hcenv]; rfl
  rw [← Heap.size_push s.heap { cls := .type "dict", data := .dict #[] }] at hcl
  have cm : ∀ {y c}, (y, c) ∈ cloFrom X.env.cells scope.names [] → X.env.cells.lookup y = some c ∧ c < s.heap.objs.size := fun {y c} hm => by
    rcases cloFrom_mem hm with hm | ⟨h1, rfl⟩
    · cases hm
    · obtain ⟨c, hc⟩ := hfree _ h1 rfl
      rw [hc]
      obtain ⟨w, z⟩ := I.cell _ _ hc
      exact ⟨rfl, z.lt⟩
  have mem : ∀ {y c}, cenv.cells.lookup y = some c → (X.env.cells.lookup y = some c ∧ c < s.heap.objs.size) ∨ (s.heap.objs.size + 1 ≤ c ∧ CellAt (pushCells (s.heap.push { cls := .type "dict", data := .dict #[] }) scope.names) c none) := fun {y c} e => by
    rw [hcl] at e
    rcases cells_mem (PySem.mem_of_lookup e) with hm | ⟨_, h2, h3⟩
    · exact .inl (cm hm)
    · rw [Heap.size_push] at h2; exact .inr ⟨h2, h3⟩
  have look : ∀ {y}, scope.names.lookup y = some .free → ∃ c, cenv.cells.lookup y = some c ∧ X.env.cells.lookup y = some c := fun {y} hl => by
    have hy : (y, NameKind.free) ∈ scope.names := PySem.mem_of_lookup hl
    obtain ⟨c', e'⟩ := mem_lookup (cells_acc (names := scope.names) (n := (s.heap.push { cls := .type "dict", data := .dict #[] }).objs.size) (cloFrom_has (cells := X.env.cells) (acc := []) hy))
    rw [← hcl] at e'
    refine ⟨c', e', ?_⟩
    rw [hcl] at e'
    rcases cells_mem (PySem.mem_of_lookup e') with hm | ⟨h1, _, _⟩
    · exact (cm hm).1
    · have := ok.uniq _ h1
      rw [hl] at this; cases this
  have okB : (X.blk s H scope cenv fp).Ok := by
    refine ⟨I.ok.mod, by show cenv.scope.kind = _; rw [hsc]; exact ok.kind, by show cenv.globals = _; rw [← hcenv]; exact I.ok.glob, by show cenv.builtins = _; rw [← hcenv]; exact I.ok.blt, by show s.heap.objs.size ≤ cenv.locals; rw [hL]; exact Nat.le_refl _,
      fun y z c e1 e2 => ?_, fun y hy => ?_, fun y c z e => ?_, I.ok.hd, I.ok.frames, .inl rfl, fun b hb => ⟨?_, fun y c e z => ?_⟩, I.bs, Nat.le_trans I.ok.bsz I.sz, fun b o e hb => ?_, fun b hb z => ?_, I.stack, I.stkFree⟩
    · have e1 : cenv.cells.lookup y = some c := e1
      have e2 : cenv.cells.lookup z = some c := e2
      rw [hcl] at e1 e2
      refine cells_inj (fun p hp => ?_) (fun y z c a b => I.ok.inj y z c (cm a).1 (cm b).1) (PySem.mem_of_lookup e1) (PySem.mem_of_lookup e2)
      rw [Heap.size_push]
      exact Nat.lt_succ_of_lt (cm (y := p.1) (c := p.2) hp).2
    · show ∃ c, cenv.cells.lookup y = some c
      have key : ∀ k, cenv.kindOf y = some k → (k = .cell ∨ k = .free) → ∃ c, cenv.cells.lookup y = some c := fun k hk hk' => by
        unfold Env.kindOf at hk
        rw [hsc] at hk
        obtain ⟨k', e, r⟩ := lookup_relS hk
        have : k' = .cell ∨ k' = .free := by
          rcases r with rfl | ⟨rfl, _⟩
          · exact hk'
          · exact .inr rfl
        rcases this with rfl | rfl
        · obtain ⟨c, hm⟩ := cells_has (n := (s.heap.push { cls := .type "dict", data := .dict #[] }).objs.size) (acc := cloFrom X.env.cells scope.names []) (PySem.mem_of_lookup e)
          obtain ⟨c', e'⟩ := mem_lookup hm
          exact ⟨c', by rw [hcl]; exact e'⟩
        · obtain ⟨c, h1, _⟩ := look e
          exact ⟨c, h1⟩
      rcases hy with hy | hy
      · exact key _ hy (.inl rfl)
      · exact key _ hy (.inr rfl)
    · have z : (scope.names.lookup y == some NameKind.cell) = true := z
      have z : scope.names.lookup y = some .cell := by simpa using z
      have e : cenv.cells.lookup y = some c := e
      rw [hcl] at e
      rcases cells_mem (PySem.mem_of_lookup e) with hm | ⟨_, h2, _⟩
      · rcases cloFrom_mem hm with hm | ⟨h1, _⟩
        · cases hm
        · have q := ok.uniq _ h1
          rw [z] at q; cases q
      · rw [Heap.size_push] at h2
        exact Nat.le_of_succ_le h2
    · show b ≠ cenv.locals
      rw [hL]; exact Nat.ne_of_lt (hfp b hb).2
    · have e : cenv.cells.lookup y = some c := e
      rcases mem e with ⟨h1, _⟩ | ⟨h1, _⟩
      · exact (hfp b hb).1.2.2.2.2.1 y c h1 z
      · have h2 : s.heap.objs.size + 1 ≤ b := by rw [← z]; exact h1
        exact absurd (Nat.lt_of_lt_of_le (hfp b hb).2 (Nat.le_of_succ_le h2)) (Nat.lt_irrefl _)
    · rcases (hfp b hb).1.2.2.2.1 with z | z
      · exact I.ok.noex b o e z
      · exact absurd (Nat.lt_of_lt_of_le (Heap.lt_size e) (Nat.le_trans I.ok.bsz z)) (Nat.lt_irrefl _)
    · rcases List.mem_cons.mp (I.stkSub b z) with z | z
      · exact (hfp b hb).1.2.1 z
      · exact (hfp b hb).1.2.2.1 z
  refine ⟨okB, rfl, I.bare, Un.kept kp, ⟨fun _ => none, ?_, fun i y av e1 e2 e3 => ?_⟩, fun y c e => ?_, ?_, fun y c e => ?_, fun p hp => ?_, I.hok.kept kp, by rw [wipe_length]; exact I.len⟩
  · show Heap.Ns _ cenv.locals _
    rw [hL]
    exact Heap.Ns.keeps (Heap.Ns.new ..) fun b o e => pushCells_keeps _ _ _ _ e
  · obtain ⟨e2, hne⟩ := wipe_some e2
    have hfr : scope.names.lookup y = some .free ∧ (cenv.kindOf y = some .cell ∨ cenv.kindOf y = some .free) := by
      have key : ∀ k, cenv.scope.names.lookup y = some k → k = .local ∨ k = .cell ∨ k = .free → scope.names.lookup y = some .free ∧ (cenv.kindOf y = some .cell ∨ cenv.kindOf y = some .free) := fun k hk hk' => by
        have hk0 := hk
        rw [hsc] at hk
        obtain ⟨k', e, r⟩ := lookup_relS hk
        have no : ¬ (k' = .local ∨ k' = .cell) := fun hh => by
          rcases ok.own _ (PySem.mem_of_lookup e) hh with e' | e'
          · obtain ⟨p, hp, hpy⟩ := List.mem_map.mp e'
            have e3 := ok.ix p hp
            have : p.1 = y := hpy
            rw [this] at e3
            exact hne (List.mem_map.mpr ⟨p, hp, nodup_ix hN e3 e1⟩)
          · exact e' (List.mem_of_getElem? e1)
        rcases r with rfl | ⟨rfl, rfl⟩
        · rcases hk' with rfl | rfl | rfl
          · exact absurd (.inl rfl) no
          · exact absurd (.inr rfl) no
          · exact ⟨e, .inr hk0⟩
        · exact ⟨e, .inl hk0⟩
      have e3 : Vis cenv.scope y := e3
      rcases e3 with e3 | e3 | e3
      · exact key _ e3 (.inl rfl)
      · exact key _ e3 (.inr (.inl rfl))
      · exact key _ e3 (.inr (.inr rfl))
    obtain ⟨m, hn, hl⟩ := I.loc
    have hvis : Vis X.env.scope y := (ok.free _ (PySem.mem_of_lookup hfr.1) rfl).elim (fun k => .inr (.inl k)) (fun k => .inr (.inr k))
    obtain ⟨w, r, q⟩ := hl i y av e1 e2 hvis
    refine ⟨w, r, .inr ⟨hfr.2, ?_⟩⟩
    obtain ⟨c, h1, h2⟩ := look hfr.1
    rcases q with ⟨k, _⟩ | ⟨_, c', e', z⟩
    · have k : X.env.scope.names.lookup y = some .local := k
      rcases ok.free _ (PySem.mem_of_lookup hfr.1) rfl with k' | k' <;> rw [show X.env.scope.names.lookup y = _ from k'] at k <;> cases k
    · rw [h2] at e'; cases e'
      exact ⟨c, h1, z.keeps kp⟩
  · have e : cenv.cells.lookup y = some c := e
    rcases mem e with ⟨h1, _⟩ | ⟨_, z⟩
    · obtain ⟨w, z⟩ := I.cell y c h1
      exact ⟨w, z.keeps kp⟩
    · exact ⟨_, z⟩
  · show H cenv.locals = none
    rw [hL]; exact I.hok.fresh (Nat.le_refl _)
  · have e : cenv.cells.lookup y = some c := e
    rcases mem e with ⟨h1, _⟩ | ⟨h1, _⟩
    · exact I.freeC y c h1
    · exact I.hok.fresh (Nat.le_of_succ_le h1)
  · exact absurd (show p ∈ ([] : List (Addr × Obj)) ++ [] from hp) (by simp)
theorem app_ok {E : Value → Shared → Prop} {D : Addr} {xs : List V} {y : V} {v : Value} {Q : Value → Shared → Prop} (I : Inv X pins σ H s) (hD : H D = some (.lst xs)) (hz : xs.length < sizeLine) (r : RelV y v)
    (h : ∀ s', Inv X pins σ (upd H D (.lst (xs ++ [y]))) s' → Q .none s') : wpAny (model X.prog X.w) X.A (call (.builtin "list.append") [.ref D, v]) Q E s := by
  obtain ⟨hz', its, n, ri, e⟩ := I.hok D _ hD
  have hl := ri.length
  refine append_at (hsz := by rw [List.size_toArray]; omega) e fun h' sb ho' => ?_
  refine h { s with heap := h' } (I.write (t' := s.toks) (by rw [hD]; trivial) (.inl rfl) (fun b u hb q => (sb.2 b hb).trans q) ⟨_, ho'⟩ ⟨by rw [List.length_append]; exact hz, its ++ [v], n + 1, ri.append (.cons r .nil), ?_⟩)
  rw [ho']
  simp
def PTs (X : Cx) (ifs : List Expr) (t : TT) : Prop :=
  ∀ (pins : List (Addr × Obj)) (s : Shared) (σ : St) (H : Hp) (Q : Bool → Hp → Prop), Inv X pins σ H s → t σ H Q →
    wpAny (model X.prog X.w) X.A (forIn ifs true fun c r => if r = true then do let ok ← isTrue c X.env (eval c X.env); pure (ForInStep.yield ok) else pure (ForInStep.yield r)) (TP X pins σ Q) X.xe s
def tYes : TT := fun _ H Q => Q true H
theorem pts_nil : PTs X [] tYes := fun _ _ _ H _ I h => wpAny_tests_nil ⟨H, I, h⟩
theorem pts_one {c : Expr} {t : TT} (h : PT X c t) : PTs X [c] t := fun pins s σ H Q I hw => wpAny_tests_one (h pins s σ H Q I hw)
end
theorem thnF {α : Type} {t : Sem α} {Q Q' : α → Shared → Prop} {M : Model} {A : Around} {E : Value → Shared → Prop} {s : Shared} (h : wpAny M A t Q (fun _ _ => False) s) (hQ : ∀ a s, Q a s → Q' a s) : wpAny M A t Q' E s := wpAny_mono h hQ fun _ _ z => False.elim z
theorem compLoop_any {prog : Program} {w : World} {A : Around} {R : Result → Shared → Prop} {s : Shared} {elt target iter : Expr} {ifs : List Expr} {scope : Scope} {pos : Pos} {it acc : Value} {env : Env} (I : Nat → Shared → Prop)
    (turn : ∀ n s, I n s → wpAny (model prog w) A (pyNext it) (fun r s₁ => match r with
      | none => R (.ok .next) s₁
      | some v => wpAny (model prog w) A (letOwnedTupleGo target it v) (fun _ s₁' => wpAny (model prog w) A (assign target env v) (fun _ s₂ =>
          wpAny (model prog w) A (forIn ifs true fun c r => if r = true then do let ok ← isTrue c env (eval c env); pure (ForInStep.yield ok) else pure (ForInStep.yield r)) (fun ok s₃ =>
            if ok = true then wpAny (model prog w) A (eval elt env) (fun x s₄ =>
              wpAny (model prog w) A (call (.builtin "list.append") [acc, x]) (fun _ s₅ => ∃ m, m < n ∧ I m s₅) (notedBy (model prog w) A env fun e s' => R (.error e) s') s₄) (notedBy (model prog w) A env fun e s' => R (.error e) s') s₃
            else ∃ m, m < n ∧ I m s₃) (notedBy (model prog w) A env fun e s' => R (.error e) s') s₂) (notedBy (model prog w) A env fun e s' => R (.error e) s') s₁') (notedBy (model prog w) A env fun e s' => R (.error e) s') s₁) (notedBy (model prog w) A env fun e s' => R (.error e) s') s)
    (n : Nat) (h : I n s) :
    codeAny (model prog w) A (.compLoop (.ListComp elt [⟨target, iter, ifs, 0⟩] scope pos) 0 it acc env) R s := by
  refine codeAny_loop rfl I (fun n s hI => ?_) n h
  show wpAny _ A ((compTurn (.ListComp elt [⟨target, iter, ifs, 0⟩] scope pos) 0 it acc env).onRaise (fun x => do noteFrame x env; theTreesLotGoes x)) _ _ s
  refine wpAny_noted ?_
  rw [compTurn_list]
  refine wpAny_bind (wpAny_standAt (wpAny_bind (wpAny_mono (turn n s hI) (fun r s₁ h₁ => ?_) fun _ _ h' => h')))
  cases r with
  | none => exact wpAny_pure h₁
  | some v =>
    refine wpAny_bind (wpAny_mono h₁ (fun _ s₁' h₁' => ?_) fun _ _ h' => h')
    refine wpAny_bind (wpAny_mono h₁' (fun _ s₂ h₂ => wpAny_bind (wpAny_mono h₂ (fun ok s₃ h₃ => ?_) fun _ _ h' => h')) fun _ _ h' => h')
    cases ok with
    | false => exact wpAny_pure ⟨rfl, h₃⟩
    | true =>
      exact wpAny_bind (wpAny_bind (wpAny_mono h₃ (fun x s₄ h₄ => wpAny_bind (wpAny_mono h₄ (fun _ s₅ h₅ => wpAny_pure (wpAny_pure ⟨rfl, h₅⟩)) fun _ _ h' => h')) fun _ _ h' => h'))
section
variable {X : Cx}
def tLc (wi : TI) (g : TG) (tt : TT) (te : TE) (vs : List Nat) : TE := fun σ H Q => wi σ H fun J H1 => ∀ D, H1 D = none → ∃ W : Nat → Nat → Hp → Prop, (∃ m, W 0 m (upd H1 D (.lst []))) ∧ ∀ i m H, W i m H →
  (J.stop i H ∧ Q (.ref D) H) ∨ (J.go i H ∧ ∃ Nx : Hp → Prop, (∀ H', Nx H' → ∃ m', m' < m ∧ W (i + 1) m' H') ∧ ∀ x H', J.yld i H x H' → g x (wipe σ vs) H' fun σ2 H2 => wipe σ2 vs = wipe σ vs ∧ tt σ2 H2 fun b H3 =>
    if b = true then te σ2 H3 fun y H4 => ∃ acc, H4 D = some (.lst acc) ∧ acc.length < sizeLine ∧ Nx (upd H4 D (.lst (acc ++ [y]))) else Nx H3)
theorem lc_core {pins : List (Addr × Obj)} {s : Shared} {σ : St} {H : Hp} {Q : VK} {elt tg iter : Expr} {ifs : List Expr} {scope : Scope} {own : List (Str × Nat)} {pos pos' : Pos} {wi : TI} {g : TG} {tt : TT} {te : TE} {use : Option (Value → Sem Unit)} {Qf : Value → Shared → Prop}
    (hc : X.calm = true) (hN : X.N.Nodup) (I : Inv X pins σ H s) (hi : PI X tg iter wi) (ok : BlkOk X.N X.env.scope scope own)
    (hg : ∀ (s : Shared) (H : Hp) (C : Addr) (cl : List (Str × Addr)) (fp : List Addr), PG (X.blk s H scope (compEnvC scope cl C X.env) fp) tg g) (ht : ∀ (s : Shared) (H : Hp) (C : Addr) (cl : List (Str × Addr)) (fp : List Addr), PTs (X.blk s H scope (compEnvC scope cl C X.env) fp) ifs tt)
    (he : ∀ (s : Shared) (H : Hp) (C : Addr) (cl : List (Str × Addr)) (fp : List Addr), PE (X.blk s H scope (compEnvC scope cl C X.env) fp) elt te) (hs : ∀ x, foldedSetIterable iter X.env x = pure x)
    (h : tLc wi g tt te (own.map (·.2)) σ H Q)
    (hRR : ∀ D C s' m H', Inv X pins σ H' s' → Q (.ref D) H' → s'.heap.Ns C m → FpOk X pins H' C → compPost (model X.prog X.w) X.A X.xe use Qf (.ref D) C (.ok .next) s') :
    wpAny (model X.prog X.w) X.A (comprehension (.ListComp elt [⟨tg, iter, ifs, 0⟩] scope pos) scope X.env pos' (newList []) false (eval iter X.env) use) Qf X.xe s := by
  have hfree : ∀ y ∈ scope.names, y.2 = .free → ∃ c, X.env.cells.lookup y.1 = some c := fun y hy e => by
    rcases ok.free y hy e with k | k
    · exact I.ok.has _ (.inl k)
    · exact I.ok.has _ (.inr k)
  refine wpAny_comprehension_free (use := use) rfl hs (closure_ok hfree) ok.kind (fun y hy e => by rw [ok.uniq y hy, e])
    (thn (hi pins s σ H _ I h) fun xv s1 hx => thn hx fun itv s2 h2 => ?_)
  obtain ⟨it, fp, tn, J, H2, e, I2, T, st2, f2, q⟩ := h2
  subst e
  refine wpAny_newObj_type (newEnv_comp ?_) (by show 0 ≤ sizeLine; decide)
  generalize hD : s2.heap.objs.size = D
  have hDn : H2 D = none := I2.hok.fresh (Nat.le_of_eq hD)
  obtain ⟨W, ⟨m0, w0⟩, turn⟩ := q D hDn
  -- the new list
  generalize hs3 : ({ s2 with heap := s2.heap.push { cls := .type "list", data := .seq ([] : List Value).toArray } } : Shared) = s3
  have I3 : Inv X pins σ (upd H2 D (.lst [])) s3 := by
    rw [← hs3]
    refine I2.laid (t' := s2.toks) (fun b o e => Heap.get?_push_of_some _ e) (Nat.le_of_eq hD) ⟨Nat.zero_le _, [], 0, .nil, ?_⟩
    rw [← hD]
    exact Heap.get?_push_size _ rfl
  have h3 : s3.heap = s2.heap.push { cls := .type "list", data := .seq ([] : List Value).toArray } := by rw [← hs3]
  have sz : ∀ b ∈ fp, b < s2.heap.objs.size := fun b hb => by
    obtain ⟨o, e, _⟩ := T.obj _ _ st2 b hb
    exact Heap.lt_size e
  have f3 : ∀ b ∈ fp, FpOk X pins (upd H2 D (.lst [])) b ∧ b < s3.heap.objs.size := fun b hb => by
    have hlt := sz b hb
    refine ⟨⟨?_, (f2 b hb).2⟩, by rw [h3, Heap.size_push]; exact Nat.lt_succ_of_lt hlt⟩
    rw [upd_ne (by rw [← hD]; exact Nat.ne_of_lt hlt)]
    exact (f2 b hb).1
  have st3 : tn 0 s3.heap := T.keep _ _ _ st2 fun b _ o e => by rw [h3]; exact Heap.get?_push_of_some _ e
  have I4 := block_start I3 ok hN f3
  have pg := hg s3 (upd H2 D (.lst [])) s3.heap.objs.size (cellsFrom (s3.heap.objs.size + 1) scope.names (cloFrom X.env.cells scope.names [])) fp
  have pt := ht s3 (upd H2 D (.lst [])) s3.heap.objs.size (cellsFrom (s3.heap.objs.size + 1) scope.names (cloFrom X.env.cells scope.names [])) fp
  have pe := he s3 (upd H2 D (.lst [])) s3.heap.objs.size (cellsFrom (s3.heap.objs.size + 1) scope.names (cloFrom X.env.cells scope.names [])) fp
  show codeAny _ _ (.compStart (.ListComp elt [⟨tg, iter, ifs, 0⟩] scope pos) 0 (.ref it) (.ref D) (compEnvC scope (cellsFrom (s3.heap.objs.size + 1) scope.names (cloFrom X.env.cells scope.names [])) s3.heap.objs.size X.env)) (compPost (model X.prog X.w) X.A X.xe use Qf (.ref D) s3.heap.objs.size) { s3 with heap := pushCells (s3.heap.push { cls := .type "dict", data := .dict #[] }) scope.names }
  have nfp : ∀ b ∈ fp, (upd H2 D (.lst [])) b = none := fun b hb => (f3 b hb).1.1
  generalize hce : compEnvC scope (cellsFrom (s3.heap.objs.size + 1) scope.names (cloFrom X.env.cells scope.names [])) s3.heap.objs.size X.env = ce at I4 pg pt pe ⊢
  have cL : ce.locals = s3.heap.objs.size := by subst hce; rfl
  generalize hH3 : upd H2 D (.lst []) = H3 at I3 I4 pg pt pe w0 nfp f3
  generalize hs4 : ({ s3 with heap := pushCells (s3.heap.push { cls := .type "dict", data := .dict #[] }) scope.names } : Shared) = s4 at I4 ⊢
  have st4 : tn 0 s4.heap := T.keep _ _ _ st3 fun b _ o e => by rw [← hs4]; exact pushCells_keeps _ _ _ _ (Heap.get?_push_of_some _ e)
  have stat : ∀ {σ' : St} {H' : Hp} {s' : Shared}, Inv (X.blk s3 H3 scope ce fp) [] σ' H' s' → (∀ b ∈ fp, H' b = none) → ∀ b ∈ fp, FpOk (X.blk s3 H3 scope ce fp) [] H' b := fun {σ' H' s'} I' hn b hb =>
    ⟨hn b hb, (I'.ok.exf b hb).1, I'.ok.exfs b hb, .inl hb, fun x c e => (I'.ok.exf b hb).2 x c e, fun p hp => absurd (show p ∈ ([] : List (Addr × Obj)) ++ [] from hp) (by simp)⟩
  have loop : codeAny (model X.prog X.w) X.A (.compLoop (.ListComp elt [⟨tg, iter, ifs, 0⟩] scope pos) 0 (.ref it) (.ref D) ce) (compPost (model X.prog X.w) X.A X.xe use Qf (.ref D) s3.heap.objs.size) s4 := by
    refine compLoop_any (fun n s' => ∃ i H', Inv (X.blk s3 H3 scope ce fp) [] (wipe σ (own.map (·.2))) H' s' ∧ tn i s'.heap ∧ (∀ b ∈ fp, H' b = none) ∧ W i n H') ?_ m0 ⟨0, H3, I4, st4, nfp, w0⟩
    rintro n s5 ⟨i, H5, I5, st5, n5, w5⟩
    rcases turn i n H5 w5 with ⟨stop, qq⟩ | ⟨go, Nx, hNx, step⟩
    · have td := T.done (X.blk s3 H3 scope ce fp) rfl rfl rfl hc i [] s5 _ H5 (fun _ _ => False) I5 (stat I5 n5) st5 stop
      refine thnF td fun r s6 ⟨hr, I6⟩ => ?_
      subst hr
      -- back in the def's context
      have I7 : Inv X pins σ H5 s6 := I3.call' (ch := fp) I6.os I6.base I6.hok I6.bare fun b hb => ⟨(f3 b hb).1.2.2.2.1, (f3 b hb).1.2.1, (f3 b hb).1.2.2.2.2.1, (f3 b hb).1.2.2.2.2.2⟩
      have nC : H5 s3.heap.objs.size = none := by
        have z : H5 ce.locals = none := I6.free
        rw [cL] at z
        exact z
      obtain ⟨m, hn, _⟩ := I6.loc
      have hn : s6.heap.Ns ce.locals m := hn
      rw [cL] at hn
      exact hRR D s3.heap.objs.size s6 m H5 I7 qq hn (I3.fpOk (Nat.le_refl _) nC)
    · have ti := T.item (X.blk s3 H3 scope ce fp) rfl rfl rfl hc i [] s5 _ H5 (fun _ _ => False) I5 (stat I5 n5) st5 go
      refine thnF ti fun r s6 ⟨u, hr, h6⟩ => ?_
      subst hr
      refine thnF h6 fun _ s7 ⟨x, H7, I7, r7, y7, st7, n7⟩ => ?_
      have I7' := I7.pinned (stat I7 n7) (T.obj _ _ st7)
      refine thnF (pg _ s7 _ H7 x u _ I7' r7 (step x H7 y7)) fun _ s8 ⟨σ8, H8, I8, hw8, q8⟩ => ?_
      refine thnF (pt _ s8 σ8 H8 _ I8 q8) fun b s9 ⟨H9, I9, q9⟩ => ?_
      -- the turn's end
      have fin : ∀ {s' : Shared} {H' : Hp}, Inv (X.blk s3 H3 scope ce fp) ([] ++ pinsAt fp s7.heap) σ8 H' s' → Nx H' → ∃ m, m < n ∧ ∃ i H', Inv (X.blk s3 H3 scope ce fp) [] (wipe σ (own.map (·.2))) H' s' ∧ tn i s'.heap ∧ (∀ b ∈ fp, H' b = none) ∧ W i m H' := fun {s' H'} I' nx => by
        obtain ⟨m', hm, w'⟩ := hNx H' nx
        have pin' : ∀ b ∈ fp, ∀ o, s7.heap.get? b = some o → s'.heap.get? b = some o ∧ H' b = none := fun b hb o e =>
          let z := I'.pin (b, o) (List.mem_append_right _ (List.mem_append_right _ (mem_pinsAt hb e)))
          ⟨z.1, z.2.1⟩
        have hl : (wipe σ (own.map (·.2))).length = σ8.length := by rw [← hw8, wipe_length]
        refine ⟨m', hm, i + 1, H', (I'.unpinned (pins := [])).weak hl (fun j v e => ?_), T.keep _ _ _ st7 fun b hb o e => (pin' b hb o e).1, fun b hb => ?_, w'⟩
        · rw [← hw8] at e
          exact (wipe_some e).1
        · obtain ⟨o, e, _⟩ := T.obj _ _ st7 b hb
          exact (pin' b hb o e).2
      cases b with
      | false =>
        simp only [Bool.false_eq_true, if_false] at q9 ⊢
        exact fin I9 q9
      | true =>
        simp only [if_true] at q9 ⊢
        refine thnF (pe _ s9 σ8 H9 _ I9 q9) fun z s10 ⟨yv, H10, I10, r10, acc, hD10, hz10, nx⟩ => ?_
        exact app_ok (X := X.blk s3 H3 scope ce fp) I10 hD10 hz10 r10 fun s11 I11 => fin I11 nx
  exact codeAny_compStart_list loop (T.self X.A 0 _ _ _ st4 loop)
theorem pe_lc {elt tg iter : Expr} {ifs : List Expr} {scope : Scope} {own : List (Str × Nat)} {pos : Pos} {wi : TI} {g : TG} {tt : TT} {te : TE} (hc : X.calm = true) (hN : X.N.Nodup) (hi : PI X tg iter wi) (ok : BlkOk X.N X.env.scope scope own)
    (hg : ∀ (s : Shared) (H : Hp) (C : Addr) (cl : List (Str × Addr)) (fp : List Addr), PG (X.blk s H scope (compEnvC scope cl C X.env) fp) tg g) (ht : ∀ (s : Shared) (H : Hp) (C : Addr) (cl : List (Str × Addr)) (fp : List Addr), PTs (X.blk s H scope (compEnvC scope cl C X.env) fp) ifs tt)
    (he : ∀ (s : Shared) (H : Hp) (C : Addr) (cl : List (Str × Addr)) (fp : List Addr), PE (X.blk s H scope (compEnvC scope cl C X.env) fp) elt te) (hs : ∀ x, foldedSetIterable iter X.env x = pure x := by intro _; rfl) :
    PE X (.ListComp elt [⟨tg, iter, ifs, 0⟩] scope pos) (tLc wi g tt te (own.map (·.2))) := by
  intro pins s σ H Q I h
  rw [eval_ListComp]
  refine lc_core hc hN I hi ok hg ht he hs h fun D C s' m H' I' q hn f => ⟨m, hn, fun h'' sb => ?_⟩
  obtain ⟨f0, f1, f2, f3, f4, f5⟩ := f
  exact ⟨.ref D, H', I'.turned (t' := s'.toks) (fun b o hb e => (sb.2 b hb).trans e) f0 f1 f3 f4 f5, rfl, q⟩
theorem ps_setLc {i : Nat} {y : Str} {py : Pos} {elt tg iter : Expr} {ifs : List Expr} {scope : Scope} {own : List (Str × Nat)} {pos spos : Pos} {wi : TI} {g : TG} {tt : TT} {te : TE} (hc : X.calm = true) (hN : X.N.Nodup) (hy : X.N[i]? = some y) (hyl : X.env.scope.names.lookup y = some .local)
    (hsw : swapsWith (.ListComp elt [⟨tg, iter, ifs, 0⟩] scope pos) (some (.Name y py)) spos.line X.env = pure true) (hi : PI X tg iter wi) (ok : BlkOk X.N X.env.scope scope own)
    (hg : ∀ (s : Shared) (H : Hp) (C : Addr) (cl : List (Str × Addr)) (fp : List Addr), PG (X.blk s H scope (compEnvC scope cl C X.env) fp) tg g) (ht : ∀ (s : Shared) (H : Hp) (C : Addr) (cl : List (Str × Addr)) (fp : List Addr), PTs (X.blk s H scope (compEnvC scope cl C X.env) fp) ifs tt)
    (he : ∀ (s : Shared) (H : Hp) (C : Addr) (cl : List (Str × Addr)) (fp : List Addr), PE (X.blk s H scope (compEnvC scope cl C X.env) fp) elt te) (hs : ∀ x, foldedSetIterable iter X.env x = pure x := by intro _; rfl) :
    PS X (.Assign [.Name y py] (.ListComp elt [⟨tg, iter, ifs, 0⟩] scope pos) spos) (tAsg (tLc wi g tt te (own.map (·.2))) (gName i)) := by
  intro pins s σ H D I h
  rw [exec_Assign_Name_used _ _ _ _ hsw]
  refine wpAny_bind (wpAny_standAt (wpAny_bind ?_))
  show wpAny _ X.A (do let _ ← comprehension (.ListComp elt [⟨tg, iter, ifs, 0⟩] scope pos) scope X.env (firstIterPos [⟨tg, iter, ifs, 0⟩] pos) (newList []) false (eval iter X.env) (some (assign (.Name y py) X.env))) _ _ s
  have h : tLc wi g tt te (own.map (·.2)) σ H (fun x H1 => gName i x σ H1 D.nx) := h
  refine wpAny_bind (thn (lc_core (Qf := fun _ s' => SP X pins D .next s') hc hN I hi ok hg ht he hs h fun L C s' m H' I' q hn f => ?_) fun _ s' hq => wpAny_pure (wpAny_pure hq))
  show wpAny _ _ (assign (.Name y py) X.env (.ref L)) _ _ _
  refine wpAny_assign_Name (store_ok2 (v := V.ref L) I' hN hy (.inl hyl) rfl (fun s2 I2 ⟨a, sb, ha⟩ => ?_) (.inr hyl))
  obtain ⟨f0, f1, f2, f3, f4, f5⟩ := f
  have haC : C ≠ a := by
    rcases ha with z | z
    · rw [z]; exact f1
    · exact fun e => f4 y a z e.symm
  refine ⟨m, hn.sameBut sb haC, fun h3 sb3 => ?_⟩
  exact ⟨_, H', I2.turned (t' := s2.toks) (fun b o hb e => (sb3.2 b hb).trans e) f0 f1 f3 f4 f5, q⟩
theorem sw_true {elt : Expr} {gs : List Comprehension} {scope : Scope} {pos py : Pos} {y : Str} {l : Nat} {env : Env} (hk : env.scope.kind = .function) (hy : env.scope.names.lookup y = some .local) (hl : (py.line == pos.line) = true)
    (ha : (scope.names.any fun (n, k) => n == y && (k == .local || k == .cell)) = false) : swapsWith (.ListComp elt gs scope pos) (some (.Name y py)) l env = pure true := by
  have ky : env.kindOf y = some .local := hy
  have hb : env.blockKind = .function := by unfold Env.blockKind; rw [hk]; rfl
  unfold swapsWith
  simp only [hb, ky, ha, Expr.pos, hl]
  rfl
end
theorem lc_range {lo : Int} {n : Nat} {g : TG} {tt : TT} {te : TE} {vs : List Nat} {σ : St} {H1 : Hp} {D : Addr} {Qd : Hp → Prop} (Pv : Nat → Hp → Prop) (h0 : Pv 0 (upd H1 D (.lst [])))
    (hs : ∀ i H, i < n → Pv i H → g (.int (lo + i)) (wipe σ vs) H fun σ2 H2 => wipe σ2 vs = wipe σ vs ∧ tt σ2 H2 fun b H3 =>
      if b = true then te σ2 H3 fun y H4 => ∃ acc, H4 D = some (.lst acc) ∧ acc.length < sizeLine ∧ Pv (i + 1) (upd H4 D (.lst (acc ++ [y]))) else Pv (i + 1) H3) (hd : ∀ H, Pv n H → Qd H) :
    ∃ W : Nat → Nat → Hp → Prop, (∃ m, W 0 m (upd H1 D (.lst []))) ∧ ∀ i m H, W i m H →
      ((Itr lo n).stop i H ∧ Qd H) ∨ ((Itr lo n).go i H ∧ ∃ Nx : Hp → Prop, (∀ H', Nx H' → ∃ m', m' < m ∧ W (i + 1) m' H') ∧ ∀ x H', (Itr lo n).yld i H x H' → g x (wipe σ vs) H' fun σ2 H2 => wipe σ2 vs = wipe σ vs ∧ tt σ2 H2 fun b H3 =>
        if b = true then te σ2 H3 fun y H4 => ∃ acc, H4 D = some (.lst acc) ∧ acc.length < sizeLine ∧ Nx (upd H4 D (.lst (acc ++ [y]))) else Nx H3) := by
  refine ⟨fun i m H => m = n - i ∧ i ≤ n ∧ Pv i H, ⟨n, by simp, Nat.zero_le _, h0⟩, ?_⟩
  rintro i m H ⟨rfl, hi, p⟩
  by_cases hlt : i < n
  · refine .inr ⟨hlt, Pv (i + 1), fun H' p' => ⟨n - (i + 1), by omega, rfl, hlt, p'⟩, fun x H' y => ?_⟩
    obtain ⟨e, y⟩ := y
    subst e y
    exact hs i _ hlt p
  · have e : i = n := by omega
    subst e
    exact .inl ⟨Nat.le_refl _, hd H p⟩
def blkC (N : List Str) (sc scope : Scope) (own : List (Str × Nat)) : Bool :=
  (match scope.kind with | .function => true | _ => false) && (scope.names.all fun y => decide (scope.names.lookup y.1 = some y.2)) && (own.all fun p => decide (N[p.2]? = some p.1)) &&
    (scope.names.all fun y => match y.2 with
      | .free => (match sc.names.lookup y.1 with | some .cell => true | some .free => true | _ => false)
      | .local => decide (y.1 ∈ own.map (·.1)) || decide (y.1 ∉ N)
      | .cell => decide (y.1 ∈ own.map (·.1)) || decide (y.1 ∉ N)
      | _ => true)
theorem blkOk_by {N : List Str} {sc scope : Scope} {own : List (Str × Nat)} (h : blkC N sc scope own = true) : BlkOk N sc scope own := by
  unfold blkC at h
  simp only [Bool.and_eq_true, List.all_eq_true, decide_eq_true_eq] at h
  obtain ⟨⟨⟨h1, h2⟩, h3⟩, h4⟩ := h
  refine ⟨?_, h2, h3, fun y hy e => ?_, fun y hy e => ?_⟩
  · split at h1
    · assumption
    · cases h1
  · have q := h4 y hy
    simp only [e] at q
    split at q <;> first | exact .inl (by assumption) | exact .inr (by assumption) | cases q
  · have q := h4 y hy
    rcases e with e | e <;> (simp only [e, Bool.or_eq_true, decide_eq_true_eq] at q; exact q)
end L2
namespace L2
open PySem PySem.Spec PyProof.Rows
section
variable {prog : Program} {w : World} {A : Around} {R : Result → Shared → Prop} {s : Shared} {elt t0 i0 t1 i1 : Expr} {ifs0 ifs1 : List Expr} {scope : Scope} {pos : Pos} {it acc : Value} {env : Env}
end
section
variable {X : Cx}
end
end L2
namespace L2
open PySem PySem.Spec PyProof.Rows
section
variable {κ : Type} [DecidableEq κ]
def valV (kvs : List (κ × V)) (k : κ) : Option V := (kvs.find? fun kv => decide (kv.1 = k)).map (·.2)
def putK (kvs : List (κ × V)) (k : κ) (v : V) : List (κ × V) :=
  if (kvs.any fun kv => decide (kv.1 = k)) = true then kvs.map (fun kv => if kv.1 = k then (kv.1, v) else kv) else kvs ++ [(k, v)]
def dropK (kvs : List (κ × V)) (k : κ) : List (κ × V) := kvs.filter fun kv => decide (kv.1 ≠ k)
theorem valV_pos {p : κ × V} {r : List (κ × V)} {k : κ} (e : p.1 = k) : valV (p :: r) k = some p.2 := by simp [valV, List.find?_cons, e]
theorem valV_neg {p : κ × V} {r : List (κ × V)} {k : κ} (e : ¬ p.1 = k) : valV (p :: r) k = valV r k := by simp [valV, List.find?_cons, e]
theorem valV_any (k : κ) : ∀ kvs : List (κ × V), (kvs.any fun kv => decide (kv.1 = k)) = (valV kvs k).isSome
  | [] => rfl
  | p :: r => by
    rw [List.any_cons]
    by_cases e : p.1 = k
    · simp only [valV_pos e, decide_eq_true e, Bool.true_or, Option.isSome_some]
    · rw [valV_neg e, decide_eq_false e, Bool.false_or]; exact valV_any k r
theorem valV_map (k j : κ) (y : V) : ∀ kvs : List (κ × V), valV (kvs.map fun kv => if kv.1 = k then (kv.1, y) else kv) j = (valV kvs j).map fun x => if j = k then y else x
  | [] => rfl
  | p :: r => by
    have ih := valV_map k j y r
    rw [List.map_cons]
    by_cases h : p.1 = k
    · rw [if_pos h]
      by_cases e : p.1 = j
      · rw [valV_pos (p := (p.1, y)) e, valV_pos e, Option.map_some, if_pos (e.symm.trans h)]
      · rw [valV_neg (p := (p.1, y)) e, valV_neg e, ih]
    · rw [if_neg h]
      by_cases e : p.1 = j
      · rw [valV_pos (p := p) e, valV_pos e, Option.map_some, if_neg (fun z => h (e.trans z))]
      · rw [valV_neg (p := p) e, valV_neg e, ih]
theorem valV_snoc (k j : κ) (y : V) : ∀ kvs : List (κ × V), valV kvs k = none → valV (kvs ++ [(k, y)]) j = if j = k then some y else valV kvs j
  | [], _ => by
    by_cases e : k = j
    · rw [if_pos e.symm]; exact valV_pos (p := (k, y)) e
    · rw [if_neg (fun z => e z.symm)]; exact valV_neg (p := (k, y)) e
  | p :: r, hn => by
    rw [List.cons_append]
    have hk : ¬ p.1 = k := fun z => by rw [valV_pos z] at hn; cases hn
    rw [valV_neg hk] at hn
    have ih := valV_snoc k j y r hn
    by_cases e : p.1 = j
    · rw [valV_pos e, valV_pos e, if_neg (fun z => hk (e.trans z))]
    · rw [valV_neg e, valV_neg e, ih]
theorem valV_put (kvs : List (κ × V)) (k j : κ) (y : V) : valV (putK kvs k y) j = if j = k then some y else valV kvs j := by
  unfold putK
  by_cases a : (kvs.any fun kv => decide (kv.1 = k)) = true
  · rw [if_pos a, valV_map]
    rw [valV_any] at a
    by_cases e : j = k
    · obtain ⟨x, hx⟩ := Option.isSome_iff_exists.mp a
      rw [if_pos e, e, hx, Option.map_some, if_pos rfl]
    · rw [if_neg e]
      cases valV kvs j with
      | none => rfl
      | some x => rw [Option.map_some, if_neg e]
  · rw [if_neg a]
    refine valV_snoc k j y kvs ?_
    rw [valV_any] at a
    cases q : valV kvs k with
    | none => rfl
    | some x => rw [q] at a; exact (a rfl).elim
theorem length_putK (kvs : List (κ × V)) (k : κ) (v : V) : (putK kvs k v).length ≤ kvs.length + 1 := by
  unfold putK
  split
  · rw [List.length_map]; omega
  · rw [List.length_append, List.length_cons, List.length_nil]; omega
theorem putK_new {kvs : List (κ × V)} {k : κ} (v : V) (h : valV kvs k = none) : putK kvs k v = kvs ++ [(k, v)] := by
  unfold putK
  rw [valV_any, h]
  exact if_neg (by decide)
theorem RelO.isSome_eq {o : Option V} {u : Option Value} (r : RelO o u) : o.isSome = u.isSome := by
  cases o with
  | none => cases u with
    | none => rfl
    | some _ => exact (show False from r).elim
  | some _ => cases u with
    | none => exact (show False from r).elim
    | some _ => rfl
theorem RelO.getD {o : Option V} {u : Option Value} {d : V} {d' : Value} (r : RelO o u) (rd : RelV d d') : RelV (o.getD d) (u.getD d') := by
  cases o with
  | none => cases u with
    | none => exact rd
    | some _ => exact (show False from r).elim
  | some _ => cases u with
    | none => exact (show False from r).elim
    | some _ => exact r
theorem KV.val {kvs : List (κ × V)} {vs : List (κ × Value)} (r : KV kvs vs) (k : κ) : RelO (valV kvs k) (valueAt vs k) := by
  unfold KV at r
  induction r with
  | nil => exact True.intro
  | @cons p q ps qs h t ih =>
    obtain ⟨h1, h2⟩ := h
    by_cases e : p.1 = k
    · have e' : q.1 = k := h1.symm.trans e
      have b : valueAt (q :: qs) k = some q.2 := by simp [valueAt, List.find?_cons, e']
      rw [valV_pos e, b]; exact h2
    · have e' : ¬ q.1 = k := fun z => e (h1.trans z)
      have b : valueAt (q :: qs) k = valueAt qs k := by simp [valueAt, List.find?_cons, e']
      rw [valV_neg e, b]; exact ih
theorem KV.any {kvs : List (κ × V)} {vs : List (κ × Value)} (r : KV kvs vs) (k : κ) : (kvs.any fun kv => decide (kv.1 = k)) = vs.any fun kv => decide (kv.1 = k) := by
  unfold KV at r
  induction r with
  | nil => rfl
  | cons h t ih => rw [List.any_cons, List.any_cons, ih, h.1]
theorem KV.repl {kvs : List (κ × V)} {vs : List (κ × Value)} (r : KV kvs vs) (k : κ) {y : V} {u : Value} (ry : RelV y u) :
    KV (kvs.map fun kv => if kv.1 = k then (kv.1, y) else kv) (vs.map fun kv => if kv.1 = k then (kv.1, u) else kv) := by
  unfold KV at r ⊢
  induction r with
  | nil => exact .nil
  | @cons p q ps qs h t ih =>
    rw [List.map_cons, List.map_cons]
    refine .cons ?_ ih
    obtain ⟨h1, h2⟩ := h
    by_cases e : p.1 = k
    · rw [if_pos e, if_pos (h1.symm.trans e)]; exact ⟨h1, ry⟩
    · rw [if_neg e, if_neg (fun z => e (h1.trans z))]; exact ⟨h1, h2⟩
theorem KV.put {kvs : List (κ × V)} {vs : List (κ × Value)} (r : KV kvs vs) (k : κ) {y : V} {u : Value} (ry : RelV y u) : KV (putK kvs k y) (stored vs k u) := by
  unfold putK stored
  rw [r.any k]
  by_cases e : (vs.any fun kv => decide (kv.1 = k)) = true
  · rw [if_pos e, if_pos e]; exact r.repl k ry
  · rw [if_neg e, if_neg e]; exact Paired.snoc r ⟨rfl, ry⟩
theorem KV.drop {kvs : List (κ × V)} {vs : List (κ × Value)} (r : KV kvs vs) (k : κ) : KV (dropK kvs k) (without vs k) := by
  unfold KV at r ⊢
  unfold dropK without
  induction r with
  | nil => exact .nil
  | @cons p q ps qs h t ih =>
    obtain ⟨h1, h2⟩ := h
    rw [List.filter_cons, List.filter_cons]
    by_cases e : p.1 = k
    · have a : ¬ decide (p.1 ≠ k) = true := by simp [e]
      have b : ¬ decide (q.1 ≠ k) = true := by simp [h1.symm.trans e]
      rw [if_neg a, if_neg b]; exact ih
    · have e' : ¬ q.1 = k := fun z => e (h1.trans z)
      have a : decide (p.1 ≠ k) = true := by simp [e]
      have b : decide (q.1 ≠ k) = true := by simp [e']
      rw [if_pos a, if_pos b]; exact .cons ⟨h1, h2⟩ ih
theorem KV.keys {kvs : List (κ × V)} {vs : List (κ × Value)} (r : KV kvs vs) : kvs.map (·.1) = vs.map (·.1) := by
  unfold KV at r
  induction r with
  | nil => rfl
  | cons h t ih => rw [List.map_cons, List.map_cons, ih, h.1]
theorem KV.length {kvs : List (κ × V)} {vs : List (κ × Value)} (r : KV kvs vs) : kvs.length = vs.length := Paired.length r
end
theorem kV_is {P : Program} {w : World} {k : Key} {u : Value} (r : RelV (kV k) u) : (mixKind P w).is k u = true := by
  cases k with
  | inl i => obtain ⟨t, e⟩ := (show ∃ t, u = Value.int i t from r); subst e; exact mixKind_int P w i t
  | inr x => obtain ⟨t, e⟩ := (show ∃ t, u = Value.str x t from r); subst e; exact mixKind_str P w x t
theorem items_are {P : Program} {w : World} : ∀ {ks : List Key} {us : List Value}, Vals (ks.map kV) us → ItemsAre (mixKind P w) ks us
  | [], _, r => by rw [List.map_nil] at r; cases r; exact .nil
  | k :: ks, _, r => by
    rw [List.map_cons] at r
    cases r with
    | cons h t => exact .cons (kV_is h) (items_are t)
abbrev KT (H : Hp) : List (List Key × V) → List (List Key × Addr × Value) → Prop := Paired fun p q => p.1 = q.1 ∧ H q.2.1 = some (.tup (p.1.map kV)) ∧ RelV p.2 q.2.2
theorem KT.val {H : Hp} {kvs : List (List Key × V)} {xs : List (List Key × Addr × Value)} (r : KT H kvs xs) (k : List Key) : RelO (valV kvs k) ((atKey xs k).map (·.2)) := by
  induction r with
  | nil => exact True.intro
  | @cons p q ps qs h t ih =>
    obtain ⟨h1, _, h2⟩ := h
    by_cases e : p.1 = k
    · have e' : q.1 = k := h1.symm.trans e
      have b : atKey (q :: qs) k = some q.2 := by simp [atKey, List.find?_cons, e']
      rw [valV_pos e, b]; exact h2
    · have e' : ¬ q.1 = k := fun z => e (h1.trans z)
      have b : atKey (q :: qs) k = atKey qs k := by simp [atKey, List.find?_cons, e']
      rw [valV_neg e, b]; exact ih
theorem KT.repl {H : Hp} {kvs : List (List Key × V)} {xs : List (List Key × Addr × Value)} (r : KT H kvs xs) (k : List Key) {y : V} {u : Value} (ry : RelV y u) :
    KT H (kvs.map fun kv => if kv.1 = k then (kv.1, y) else kv) (xs.map (putAt k u)) := by
  induction r with
  | nil => exact .nil
  | @cons p q ps qs h t ih =>
    rw [List.map_cons, List.map_cons]
    refine .cons ?_ ih
    obtain ⟨h1, h2, h3⟩ := h
    unfold putAt
    by_cases e : p.1 = k
    · rw [if_pos e, if_pos (h1.symm.trans e)]; exact ⟨h1, h2, ry⟩
    · rw [if_neg e, if_neg (fun z => e (h1.trans z))]; exact ⟨h1, h2, h3⟩
theorem KT.put {H : Hp} {kvs : List (List Key × V)} {xs : List (List Key × Addr × Value)} (r : KT H kvs xs) (k : List Key) {b : Addr} {y : V} {u : Value} (hb : H b = some (.tup (k.map kV))) (ry : RelV y u) :
    KT H (putK kvs k y) (storedH xs k b u) := by
  have e : (kvs.any fun kv => decide (kv.1 = k)) = (atKey xs k).isSome := by
    rw [valV_any, (r.val k).isSome_eq, Option.isSome_map]
  unfold putK storedH
  rw [e]
  by_cases q : (atKey xs k).isSome = true
  · rw [if_pos q, if_pos q]; exact r.repl k ry
  · rw [if_neg q, if_neg q]; exact Paired.snoc r ⟨rfl, hb, ry⟩
theorem KT.keeps {H H' : Hp} {kvs : List (List Key × V)} {xs : List (List Key × Addr × Value)} (r : KT H kvs xs) (ht : ∀ b ys, H b = some (.tup ys) → H' b = some (.tup ys)) : KT H' kvs xs :=
  Paired.mapP r fun _ _ z => ⟨z.1, ht _ _ z.2.1, z.2.2⟩
section
variable {P : Program} {w : World} {H : Hp} {h : Heap} {a : Addr}
theorem rd_of {u : HO} (ok : HOk P w H h) (e : Rd H a u) : ObjOk P w H h a u := e.ok ok
theorem dk_rd {kvs : List (Key × V)} (ok : HOk P w H h) (e : Rd H a (.dK kvs)) : kvs.length ≤ sizeLine ∧ (a == sysModules) = false ∧ ∃ vs, KV kvs vs ∧ h.DictOf (mixKind P w) a vs :=
  show ObjOk P w H h a (.dK kvs) from rd_of ok e
theorem dk_of {kvs : List (Key × V)} (ok : HOk P w H h) (e : H a = some (.dK kvs)) : kvs.length ≤ sizeLine ∧ (a == sysModules) = false ∧ ∃ vs, KV kvs vs ∧ h.DictOf (mixKind P w) a vs := dk_rd ok (.inl e)
theorem key_of {ks : List Key} (ok : HOk P w H h) (e : H a = some (.tup (ks.map kV))) : (tupleKind (mixKind P w)).is h ks a := by
  obtain ⟨_, its, r, o, h1, h2, n, h3⟩ := (show ObjOk P w H h a (.tup (ks.map kV)) from ok a _ e)
  exact ⟨o, its.toArray, n, h1, h2, h3, by simpa using items_are r⟩
theorem dt_rd {kvs : List (List Key × V)} (ok : HOk P w H h) (e : Rd H a (.dT kvs)) : kvs.length ≤ sizeLine ∧ (a == sysModules) = false ∧
    ∃ xs, KT H kvs xs ∧ h.DictOfH (tupleKind (mixKind P w)) a xs := by
  obtain ⟨z, y, xs, r, o, es, ep, h1, h2, h3, h4, h5⟩ := (show ObjOk P w H h a (.dT kvs) from rd_of ok e)
  refine ⟨z, y, xs, r, o, es, ep, h1, h2, h3, h4, fun x hx => ?_, h5⟩
  have all : ∀ {l : List (List Key × V)} {m : List (List Key × Addr × Value)}, KT H l m → ∀ x ∈ m, (tupleKind (mixKind P w)).is h x.1 x.2.1 := by
    intro l m q
    induction q with
    | nil => intro x hx; exact nomatch hx
    | @cons p q ps qs hq t ih =>
      intro x hx
      rcases List.mem_cons.mp hx with e | hx
      · subst e
        exact key_of ok (by rw [← hq.1]; exact hq.2.1)
      · exact ih x hx
  exact all r x hx
theorem dt_of {kvs : List (List Key × V)} (ok : HOk P w H h) (e : H a = some (.dT kvs)) : kvs.length ≤ sizeLine ∧ (a == sysModules) = false ∧
    ∃ xs, KT H kvs xs ∧ h.DictOfH (tupleKind (mixKind P w)) a xs := dt_rd ok (.inl e)
end
def DGet (H : Hp) (a : Addr) (y : V) (r : Option V) : Prop :=
  (∃ kvs k, Rd H a (.dK kvs) ∧ y = kV k ∧ r = valV kvs k) ∨ ∃ kvs k b, Rd H a (.dT kvs) ∧ y = .ref b ∧ H b = some (.tup (k.map kV)) ∧ r = valV kvs k
def DPut (H : Hp) (a : Addr) (y v : V) (H' : Hp) : Prop :=
  (∃ kvs k, H a = some (.dK kvs) ∧ y = kV k ∧ kvs.length < sizeLine ∧ H' = upd H a (.dK (putK kvs k v))) ∨
  ∃ kvs k b, H a = some (.dT kvs) ∧ y = .ref b ∧ H b = some (.tup (k.map kV)) ∧ kvs.length < sizeLine ∧ H' = upd H a (.dT (putK kvs k v))
theorem DGet.k {H : Hp} {a : Addr} {kvs : List (Key × V)} {k : Key} (e : H a = some (.dK kvs)) : DGet H a (kV k) (valV kvs k) := .inl ⟨kvs, k, .inl e, rfl, rfl⟩
theorem DGet.t {H : Hp} {a b : Addr} {kvs : List (List Key × V)} {k : List Key} (e : H a = some (.dT kvs)) (eb : H b = some (.tup (k.map kV))) : DGet H a (.ref b) (valV kvs k) := .inr ⟨kvs, k, b, .inl e, rfl, eb, rfl⟩
theorem DPut.k {H : Hp} {a : Addr} {kvs : List (Key × V)} {k : Key} {v : V} (e : H a = some (.dK kvs)) (hl : kvs.length < sizeLine) : DPut H a (kV k) v (upd H a (.dK (putK kvs k v))) := .inl ⟨kvs, k, e, rfl, hl, rfl⟩
theorem DPut.t {H : Hp} {a b : Addr} {kvs : List (List Key × V)} {k : List Key} {v : V} (e : H a = some (.dT kvs)) (eb : H b = some (.tup (k.map kV))) (hl : kvs.length < sizeLine) :
    DPut H a (.ref b) v (upd H a (.dT (putK kvs k v))) := .inr ⟨kvs, k, b, e, rfl, eb, hl, rfl⟩
section
variable {X : Cx} {pins : List (Addr × Obj)} {σ : St} {H : Hp} {s : Shared} {a : Addr} {y v : V} {u r : Value} {o : Option V} {A : Around} {E : Value → Shared → Prop}
theorem Inv.big (I : Inv X pins σ H s) : sysModules < s.heap.objs.size := by
  have h : mainGlobals < s.heap.objs.size := (I.mod.glob.keeps I.bk).lt
  exact Nat.lt_trans (by decide) h
theorem d_getItem {Q : Value → Shared → Prop} (hu : A.units + 1 < cLine) (I : Inv X pins σ H s) (g : DGet H a y (some v)) (ry : RelV y u) (h : ∀ w' s', Inv X pins σ H s' → RelV v w' → Q w' s') :
    wpAny (model X.prog X.w) A (getItem (.ref a) u) Q E s := by
  rcases g with ⟨kvs, k, e, ey, l⟩ | ⟨kvs, k, b, e, ey, eb, l⟩
  · subst ey
    obtain ⟨z, hd, vs, rel, dd⟩ := dk_rd I.hok e
    obtain ⟨w', hw, rw'⟩ := RelO.some_of (v := v) (o := valueAt vs k) (by rw [l]; exact rel.val k)
    exact wpAny_getItem_of (kV_is ry) dd.mapOf hw (h w' _ (I.tok _) rw')
  · subst ey
    cases (show u = Value.ref b from ry)
    obtain ⟨z, hd, xs, rel, dd⟩ := dt_rd I.hok e
    obtain ⟨w', hw, rw'⟩ := RelO.some_of (v := v) (o := (atKey xs k).map (·.2)) (by rw [l]; exact rel.val k)
    obtain ⟨p, hp, hp2⟩ := Option.map_eq_some_iff.mp hw
    refine wpAny_getItem_heap (tupleKind_room_in1 hu) (key_of I.hok eb) dd hp ?_
    rw [hp2]
    exact h w' _ (I.tok _) rw'
theorem d_write {h' : Heap} {t' : Nat} {ob : HO} (I : Inv X pins σ H s) (mu : Mut (H a)) (hs : Heap.SameBut a s.heap h') (he : ∃ q, h'.get? a = some q) (new : ObjOk X.prog X.w (upd H a ob) h' a ob) :
    Inv X pins σ (upd H a ob) { s with heap := h', toks := t' } :=
  I.write (x := a) (e := a) mu (.inl rfl) (fun b q hb z => (hs.2 b hb).trans z) he new
theorem dk_new {P : Program} {w : World} {H' : Hp} {h' : Heap} {kvs : List (Key × V)} {vs : List (Key × Value)} (z : kvs.length ≤ sizeLine) (hd : (a == sysModules) = false) (rel : KV kvs vs) (dd : h'.DictOf (mixKind P w) a vs) :
    ObjOk P w H' h' a (.dK kvs) := ⟨z, hd, vs, rel, dd⟩
theorem d_setItem {H' : Hp} {Q : Unit → Shared → Prop} (hu : A.units + 1 < cLine) (I : Inv X pins σ H s) (g : DPut H a y v H') (ry : RelV y u) (rv : RelV v r) (h : ∀ s', Inv X pins σ H' s' → Q () s') :
    wpAny (model X.prog X.w) A (setItem (.ref a) u r) Q E s := by
  rcases g with ⟨kvs, k, e, ey, l, eH⟩ | ⟨kvs, k, b, e, ey, eb, l, eH⟩
  · subst ey eH
    obtain ⟨z, hd, vs, rel, dd⟩ := dk_of I.hok e
    have hz : vs.length ≤ sizeLine := by rw [← rel.length]; exact z
    have hl : (putK kvs k v).length ≤ sizeLine := by have := length_putK kvs k v; omega
    refine wpAny_setItem_pairs (hsz := hz) (kV_is ry) dd fun h' dd' hs => h _ ?_
    have he : ∃ q, h'.get? a = some q := let ⟨q, _, _, hq, _⟩ := dd'; ⟨q, hq⟩
    exact d_write I (by rw [e]; exact True.intro) hs he (dk_new hl hd (rel.put k rv) dd')
  · subst ey eH
    cases (show u = Value.ref b from ry)
    obtain ⟨z, hd, xs, rel, dd⟩ := dt_of I.hok e
    have hz : xs.length ≤ sizeLine := by rw [← Paired.length rel]; exact z
    have hl : (putK kvs k v).length ≤ sizeLine := by have := length_putK kvs k v; omega
    refine wpAny_setItem_heap (hsz := hz) (tupleKind_room_in1 hu) (key_of I.hok eb) dd fun h' dd' hs => h _ ?_
    obtain ⟨q, es, ep, hq, h2, h3, h4, _, h5⟩ := dd'
    refine d_write I (by rw [e]; exact True.intro) hs ⟨q, hq⟩ ⟨hl, hd, _, (rel.put k eb rv).keeps fun c ys ec => ?_, q, es, ep, hq, h2, h3, h4, h5⟩
    rw [upd_ne (ne_of ec e (fun z => nomatch z))]
    exact ec
end
section
variable {X : Cx} {pins : List (Addr × Obj)} {σ : St} {H : Hp} {s : Shared} {a : Addr} {kvs : List (Key × V)} {k : Key} {u : Value} {A : Around} {E : Value → Shared → Prop}
theorem d_len {Q : Value → Shared → Prop} (I : Inv X pins σ H s) (e : Rd H a (.dK kvs)) (h : ∀ t s', Inv X pins σ H s' → Q (.int kvs.length t) s') : wpAny (model X.prog X.w) A (call (.builtin "len") [.ref a]) Q E s := by
  obtain ⟨z, hd, vs, rel, dd⟩ := dk_rd I.hok e
  refine call_len_dict hd dd (by rw [← rel.length]; rw [sizeLine_eq] at z; omega) ?_
  rw [← rel.length]
  exact h _ _ (I.tok _)
end
theorem dict_typeIs {X : Cx} {pins : List (Addr × Obj)} {σ : St} {H : Hp} {s : Shared} {a : Addr} {y : V} {o : Option V} (I : Inv X pins σ H s) (g : DGet H a y o) : s.TypeIs (.ref a) "dict" := by
  rcases g with ⟨kvs, k, e, _, _⟩ | ⟨kvs, k, b, e, _, _, _⟩
  · obtain ⟨_, _, vs, _, dd⟩ := dk_rd I.hok e
    exact dd.typeIs
  · obtain ⟨_, _, xs, _, dd⟩ := dt_rd I.hok e
    exact dd.typeIs
section
variable {X : Cx} {o i e value : Expr} {pos pos' tpos : Pos} {td ty tv : TE}
end
theorem dk_empty {P : Program} {w : World} {H : Hp} (h : Heap) (hb : sysModules < h.objs.size) : ObjOk P w H (h.push { cls := .type "dict", data := .dict #[] }) h.objs.size (.dK []) :=
  ⟨Nat.zero_le _, beq_eq_false_iff_ne.mpr (Ne.symm (Nat.ne_of_lt hb)), [], .nil, Heap.DictOf.new h⟩
def tDNewK : TE := fun _ H Q => ∀ p, H p = none → Q (.ref p) (upd H p (.dK []))
section
variable {X : Cx} {pos : Pos}
theorem pe_dnewK : PE X (.Dict [] [] pos) tDNewK := fun pins s σ H Q I h =>
  wpAny_Dict_empty ⟨.ref s.heap.objs.size, _, I.laid (a := s.heap.objs.size) (o := .dK []) (t' := s.toks) (fun _ _ q => Heap.get?_push_of_some _ q) (Nat.le_refl _) (dk_empty s.heap I.big), rfl, h _ (I.hok.fresh (Nat.le_refl _))⟩
end
def mergeK (kvs more : List (Key × V)) : List (Key × V) := more.foldl (fun acc kv => putK acc kv.1 kv.2) kvs
theorem KV.merge : ∀ {more : List (Key × V)} {rs : List (Key × Value)} {kvs : List (Key × V)} {vs : List (Key × Value)}, KV more rs → KV kvs vs → KV (mergeK kvs more) (merged vs rs) := by
  intro more rs kvs vs r
  unfold KV at r
  induction r generalizing kvs vs with
  | nil => intro q; exact q
  | @cons p q ps qs h t ih =>
    intro r0
    have e : KV (putK kvs p.1 p.2) (stored vs q.1 q.2) := by
      have := r0.put p.1 h.2
      rw [← h.1]; exact this
    exact ih e
theorem length_mergeK : ∀ (more kvs : List (Key × V)), (mergeK kvs more).length ≤ kvs.length + more.length
  | [], kvs => by show kvs.length ≤ kvs.length + 0; omega
  | p :: r, kvs => by
    have h1 := length_mergeK r (putK kvs p.1 p.2)
    have h2 := length_putK kvs p.1 p.2
    show (mergeK (putK kvs p.1 p.2) r).length ≤ _
    rw [List.length_cons]; omega
structure M2 (X : Cx) (o : Expr) (m : Str) (apos : Pos) (e f : Expr) (cpos : Pos) : Prop where
  base : attributeBase o m X.env (eval o X.env) = eval o X.env
  few : ((backTo cpos (starEach [e, f] X.env)).all (fun x => !x.1) && (backToKw cpos (keywordEach [] X.env)).all (fun x => x.1.isSome)
    && decide (([e, f] : List Expr).length + ([] : List Keyword).length + (if ([] : List Keyword).isEmpty then 0 else 1) < 30)) = true
  line : (apos.endLine == cpos.line) = true
  trees : backTo cpos (starEach [e, f] X.env) = [(false, eval e X.env), (false, eval f X.env)]
def IsD (H : Hp) (a : Addr) : Prop := (∃ kvs, Rd H a (.dK kvs)) ∨ ∃ kvs, Rd H a (.dT kvs)
theorem isD_at {X : Cx} {pins : List (Addr × Obj)} {σ : St} {H : Hp} {s : Shared} {a : Addr} (I : Inv X pins σ H s) (d : IsD H a) :
    s.TypeIs (.ref a) "dict" ∧ (∀ b, Value.ref a = .ref b → ∃ ob, s.heap.get? b = some ob ∧ ob.dict = none) ∧ (a == sysModules) = false := by
  rcases d with ⟨kvs, e⟩ | ⟨kvs, e⟩
  · obtain ⟨_, hd, vs, _, dd⟩ := dk_rd I.hok e
    refine ⟨dd.typeIs, fun b q => ?_, hd⟩
    cases q
    obtain ⟨ob, _, _, h1, h2, _⟩ := dd
    exact ⟨ob, h1, h2.2.1⟩
  · obtain ⟨_, hd, xs, _, dd⟩ := dt_rd I.hok e
    refine ⟨dd.typeIs, fun b q => ?_, hd⟩
    cases q
    obtain ⟨ob, _, _, h1, h2, _⟩ := dd
    exact ⟨ob, h1, h2.2.1⟩
section
variable {X : Cx} {pins : List (Addr × Obj)} {σ : St} {H : Hp} {s : Shared} {a : Addr} {y d : V} {u r : Value} {o : Option V} {A : Around} {E : Value → Shared → Prop}
theorem d_get2 {Q : Value → Shared → Prop} (hu : A.units + 1 < cLine) (I : Inv X pins σ H s) (g : DGet H a y o) (ry : RelV y u) (rd : RelV d r) (h : ∀ w' s', Inv X pins σ H s' → RelV (o.getD d) w' → Q w' s') :
    wpAny (model X.prog X.w) A (call (.builtin "dict.get") [.ref a, u, r]) Q E s := by
  rcases g with ⟨kvs, k, e, ey, l⟩ | ⟨kvs, k, b, e, ey, eb, l⟩
  · subst ey
    obtain ⟨z, hd, vs, rel, dd⟩ := dk_rd I.hok e
    refine call_meetsIn PySem.F.slot_dict_get dd.typeIs PySem.F.entry_dict_get (PySem.F.args_dict_get_3 _ _ _) (meets_dict_get_default (mixKind X.prog X.w) a (kV_is ry) hd r) ⟨_, dd.mapOf, h _ _ (I.tok _) ?_⟩
    rw [l]
    exact (rel.val k).getD rd
  · subst ey
    cases (show u = Value.ref b from ry)
    obtain ⟨z, hd, xs, rel, dd⟩ := dt_rd I.hok e
    refine call_meetsIn PySem.F.slot_dict_get dd.typeIs PySem.F.entry_dict_get (PySem.F.args_dict_get_3 _ _ _) (meetsH_dict_get_default (tupleKind (mixKind X.prog X.w)) a b hd r) ⟨tupleKind_room_in1 hu, k, xs, key_of I.hok eb, dd, h _ _ (I.tok _) ?_⟩
    rw [l]
    exact (rel.val k).getD rd
end
def tDGet2 (td ty tx : TE) : TE := fun σ H Q => td σ H fun x H1 => ∃ a, x = .ref a ∧ IsD H1 a ∧ ty σ H1 fun y H2 => tx σ H2 fun z H3 => ∃ o, DGet H3 a y o ∧ Q (o.getD z) H3
section
variable {X : Cx} {o e f : Expr} {apos cpos : Pos} {td ty tx : TE}
theorem pe_dget2 (hu : X.A.units + 1 < cLine) (ho : PE X o td) (he : PE X e ty) (hf : PE X f tx) (m : M2 X o "get" apos e f cpos) : PE X (.Call (.Attribute o "get" apos) [e, f] [] cpos) (tDGet2 td ty tx) := by
  intro pins s σ H Q I h
  refine wpAny_Call_method m.base m.few m.line PySem.F.plainAttrs_dict PySem.F.slot_dict_get PySem.F.type_dict_get (thn (ho pins s σ H _ I h) fun u s1 ⟨x, H1, I1, rx, a, ex, d, q1⟩ => ?_)
  subst ex
  obtain rfl : u = Value.ref a := rx
  obtain ⟨t1, t2, _⟩ := isD_at I1 d
  refine ⟨t1, t2, ?_⟩
  rw [m.trees]
  refine Calls.callWith_builtin rfl (Calls.evalArgs_plain (Calls.spliced_cons (thn (he pins s1 σ H1 _ I1 q1) fun iv s2 ⟨y, H2, I2, ry, q2⟩ =>
    Calls.spliced_cons (thn (hf pins s2 σ H2 _ I2 q2) fun fv s3 ⟨z, H3, I3, rz, ov, g, q3⟩ => Calls.spliced_nil ?_))))
  exact d_get2 hu I3 g ry rz fun w' s4 I4 rw' => ⟨_, H3, I4, rw', q3⟩
end
section
variable {X : Cx} {pins : List (Addr × Obj)} {σ : St} {H : Hp} {s : Shared} {a : Addr} {kvs : List (Key × V)} {A : Around} {E : Value → Shared → Prop}
end
section
variable {X : Cx} {pins : List (Addr × Obj)} {σ : St} {H : Hp} {s : Shared} {a : Addr} {y : V} {u : Value} {A : Around} {E : Value → Shared → Prop}
end
end L2
namespace L2
open PySem PySem.Spec PyProof.Rows
theorem list_keys_none : typeLookup (.type "list") "keys" = pure none := am_miss_of_fast (by first | decide +kernel | rfl)
theorem ud_entry : entryFor table "dict.update.loop" = some Builtin.«dict.update.loop» := entryFor_of_tree (by kernel_rfl)
theorem ud_plain : plainId "dict.update.loop" = true := by decide +kernel
section
variable {prog : Program} {w : World} {A : Around} {E : Value → Shared → Prop}
theorem miss_list {s : Shared} {a : Addr} {o : Obj} {xs : Array Value} {k : Nat} {Q : Option Value → Shared → Prop} (hx : s.heap.get? a = some o) (hc : o.cls = .type "list") (hdat : o.data = .seq xs k) (hd : o.dict = none) (hA : A.handled = none)
    (h : ∀ h' tk, (∀ b ob, s.heap.get? b = some ob → h'.get? b = some ob) → Q none { s with heap := h', toks := tk }) : wpAny (model prog w) A (getAttr? (.ref a) "keys") Q E s := by
  obtain ⟨c, dct, dat, sl⟩ := o
  simp only at hc hdat hd
  subst hc hdat hd
  obtain ⟨hp, g, d, tk, os⟩ := s
  have hT : ∀ tk', (⟨hp, g, d, tk', os⟩ : Shared).TypeIs (.ref a) "list" := fun _ => ⟨_, hx, rfl⟩
  have hmiss := list_keys_none
  have hname : (["__module__", "__name__", "__qualname__", "__doc__", "__annotations__"] : List Str).contains "keys" = false := by decide +kernel
  have hsz : ("keys" : Str).length + 100 ≤ sizeLine := by first | size_fits | decide +kernel
  have f1 := sub_AttributeError
  have f3 := PySem.F.slot_list_getattribute.lookup
  have f4 := PySem.F.slot_list_getattribute.bind (.ref a)
  have f5 := am_list_getattr_none
  unfold getAttr? getAttrBy? getAttrBy
  repeat (any_goals (first | assumption | exact hT _ | ((with_reducible show wpAny _ _ (call (Value.builtin "list.__getattribute__") _ _) _ _ _); refine call_meets PySem.F.slot_list_getattribute (hT _) am_entry_list_getattribute (PySem.F.args_list_getattribute_2 _ _) (meets_getattribute_miss_list a xs k sl "keys" _ hmiss hname hsz) ⟨hx, hA, fun h' tk' e hx' => ?_⟩) | wp_step))
  obtain ⟨t', u', he⟩ := hx'.there
  show wpAny _ _ (getattributeRaised _ _ _ _ _ _ _) _ _ _
  unfold getattributeRaised
  repeat (any_goals (first | assumption | wp_step))
  all_goals first | exact h _ _ hx'.keeps | (dsimp only; repeat (any_goals (first | assumption | exact h _ _ hx'.keeps | wp_step)))
theorem upd_loop {R : Result → Shared → Prop} {S I l : Addr} {items : Array Value} {res : Value} (hh : A.handled = none) (hlI : l ≠ I) (hSI : S ≠ I) (hSl : S ≠ l) :
    ∀ (rest : List (Key × Value)) (i : Nat) (acc : List (Key × Value)) (ix : Int) (t : Tok) (s : Shared), items.size = i + rest.length → acc.length + rest.length ≤ sizeLine →
      (∀ (j : Nat) (q : Key × Value), rest[j]? = some q → ∃ (b : Addr) (u : Value), items[i + j]? = some (.ref b) ∧ b ≠ S ∧ b ≠ I ∧ IsTup s.heap b #[u, q.2] ∧ keyIs q.1 u = true) →
      s.heap.IsListIter I l i → s.heap.IsList l items → s.heap.DictOf (mixKind prog w) S acc →
      (∀ h' tk, h'.DictOf (mixKind prog w) S (merged acc rest) → (∀ b o, b ≠ S → b ≠ I → s.heap.get? b = some o → h'.get? b = some o) → R (.ok (.ret res)) { s with heap := h', toks := tk }) →
      codeAny (model prog w) A (.builtin "dict.update.loop" ⟨[.ref S, .ref I, .int ix t, res], []⟩) R s
  | [], i, acc, ix, t, s, hsz, hln, ht, hit, hl, hm, hR => by
    refine codeAny_builtin ud_entry ?_
    rw [Around.under_plainId ud_plain _]
    show wpAny _ A.in1 (pyNext (.ref I) >>= _) _ _ s
    refine wpAny_bind (wpAny_pyNext_list_end (A := A.in1) hh hit hl (by first | exact Array.getElem?_eq_none (Nat.le_of_eq hsz) | (simp at hsz; simp; omega)) fun h' he => ?_)
    show wpAny _ A.in1 (Builtin.Dict.addKeywords S [] >>= _) _ _ _
    refine wpAny_bind (wpAny_pure (wpAny_pure ?_))
    exact hR h' s.toks (hm.extBut he hSI) fun b o _ hb e => he b o hb e
  | q :: rest, i, acc, ix, t, s, hsz, hln, ht, hit, hl, hm, hR => by
    obtain ⟨b, u, hb, hbS, hbI, htup, hk⟩ := ht 0 q rfl
    rw [List.length_cons] at hsz hln
    refine codeAny_builtin ud_entry ?_
    rw [Around.under_plainId ud_plain _]
    show wpAny _ A.in1 (pyNext (.ref I) >>= _) _ _ s
    refine wpAny_bind (wpAny_pyNext_list_item (x := .ref b) hit hl (by simpa using hb) fun h1 hit1 hs1 => ?_)
    have ht1 : IsTup h1 b #[u, q.2] := htup.extBut hs1.extBut hbI
    have hl1 : h1.IsList l items := hl.extBut hs1.extBut hlI
    have hm1 : h1.DictOf (mixKind prog w) S acc := hm.extBut hs1.extBut hSI
    obtain ⟨o, ho, hc, n, hd⟩ := id ht1
    show wpAny _ A.in1 (holding [Value.ref b] _ >>= _) _ _ _
    refine wpAny_bind (wpAny_holding ?_)
    refine wpAny_bind (wpAny_tryCatch ?_)
    unfold Builtin.Dict.pairItems
    refine wpAny_bind (wpAny_typeOf (T := "tuple") ⟨o, ho, hc⟩ ?_)
    rw [if_pos (by first | decide | rfl | simp)]
    refine wpAny_bind (wpAny_seqItems ho hd (wpAny_pure ?_))
    show wpAny _ A.in1 (holding [u, q.2] (dictSet S u q.2)) _ _ _
    refine wpAny_holding (wpAny_dictSet_pairs (knd := mixKind prog w) (k := q.1) hk hm1 (fun h2 hm2 hs2 => ?_) (by omega))
    refine wpAny_pure ⟨plainId_quiet ud_plain _, upd_loop (items := items) hh hlI hSI hSl rest (i + 1) (stored acc q.1 q.2) (ix + 1) 0 _ (show items.size = i + 1 + rest.length by omega) ?_ (fun j q' e => ?_) ?_ ?_ hm2 fun h' tk hd' k => ?_⟩
    · have z := stored_length_le acc q.1 q.2
      omega
    · obtain ⟨b', u', hb', hbS', hbI', htup', hk'⟩ := ht (j + 1) q' (by simpa using e)
      refine ⟨b', u', ?_, hbS', hbI', (htup'.extBut hs1.extBut hbI').extBut hs2.extBut hbS', hk'⟩
      rw [show i + 1 + j = i + (j + 1) by omega]
      exact hb'
    · exact hit1.at fun o' e => hs2.extBut I o' (Ne.symm hSI) e
    · exact hl1.extBut hs2.extBut (Ne.symm hSl)
    · exact hR h' tk hd' fun c oc h3 h4 e => k c oc h3 h4 (hs2.extBut c oc h3 (hs1.extBut c oc h4 e))
theorem call_dict_pairs {s : Shared} {l : Addr} {ol : Obj} {items : Array Value} {n : Nat} {prs : List (Key × Value)} {Q : Value → Shared → Prop} (hh : A.handled = none) (hl : s.heap.get? l = some ol) (hc : ol.cls = .type "list") (hd : ol.dict = none)
    (hdat : ol.data = .seq items n) (hsz : items.size = prs.length) (hln : prs.length ≤ sizeLine)
    (ht : ∀ (j : Nat) (q : Key × Value), prs[j]? = some q → ∃ (b : Addr) (u : Value), items[j]? = some (.ref b) ∧ IsTup s.heap b #[u, q.2] ∧ keyIs q.1 u = true)
    (h : ∀ h' tk, h'.DictOf (mixKind prog w) s.heap.objs.size (merged [] prs) → (∀ b o, s.heap.get? b = some o → h'.get? b = some o) → Q (.ref s.heap.objs.size) { s with heap := h', toks := tk }) :
    wpAny (model prog w) A (call (.type "dict") [.ref l]) Q E s := by
  refine callType_codes (Q₁ := fun obj s₁ => obj = .ref s.heap.objs.size ∧ s₁ = { s with heap := s.heap.push { cls := .type "dict", data := .dict #[] } }) PySem.F.kt_called_dict (PySem.F.kt_typeCall_dict_1 _) PySem.F.entry_dict_init (kt_code_dict_new _ ⟨rfl, rfl⟩) ?_
  rintro obj s₁ ⟨rfl, rfl⟩
  have hnew : (s.heap.push { cls := .type "dict", data := .dict #[] }).DictOf (mixKind prog w) s.heap.objs.size [] := Heap.DictOf.new s.heap
  have k0 : ∀ b o, s.heap.get? b = some o → (s.heap.push { cls := .type "dict", data := .dict #[] }).get? b = some o := fun b o e => Heap.get?_push_of_some _ e
  refine ⟨hnew.typeIs, PySem.F.args_dict_init_2 _ _, ?_⟩
  unfold Builtin.«dict.__init__»
  refine wpAny_bind ?_
  unfold Builtin.Dict.selfAndRest
  refine wpAny_bind (wpAny_notOrdered_dict hnew.typeIs ?_)
  show wpAny _ _ (pure (s.heap.objs.size, [Value.ref l])) _ _ _
  refine wpAny_pure ?_
  show wpAny _ _ (Builtin.Dict.updateFrom "dict.__init__" s.heap.objs.size (.ref l) [] .none) _ _ _
  unfold Builtin.Dict.updateFrom
  refine wpAny_bind (wpAny_typeOf (T := "list") ⟨ol, k0 _ _ hl, hc⟩ ?_)
  rw [if_pos (by first | decide | rfl | simp)]
  refine wpAny_bind (miss_list (k0 _ _ hl) hc hdat hd hh fun h1 tk1 hk1 => ?_)
  rw [if_pos (show (none : Option Value).isNone = true from rfl)]
  refine wpAny_bind (wpAny_rule ?_)
  have hl1 : h1.IsList l items := ⟨ol, hk1 _ _ (k0 _ _ hl), hc, n, hdat⟩
  have hS1 : s.heap.objs.size < h1.objs.size := by
    have e : (s.heap.push { cls := .type "dict", data := .dict #[] }).get? s.heap.objs.size = some { cls := .type "dict", data := .dict #[] } := Heap.get?_push_size _ rfl
    exact Heap.lt_size (hk1 _ _ e)
  refine wpAny_bind (wpAny_pyIter_list hl1 ?_)
  have k2 : ∀ b o, h1.get? b = some o → (h1.push { cls := .type "list_iterator", data := .fields #[.ref l, .int 0 0] }).get? b = some o := fun b o e => Heap.get?_push_of_some _ e
  have hlt : l < s.heap.objs.size := Heap.lt_size hl
  have key := upd_loop (prog := prog) (w := w) (A := A.in1) (R := wants (fun r s₂ => r = .none ∧ Q (.ref s.heap.objs.size) s₂) E) (S := s.heap.objs.size) (I := h1.objs.size) (l := l) (items := items) (res := Value.none) hh
    (Nat.ne_of_lt (Nat.lt_trans hlt hS1)) (Nat.ne_of_lt hS1) (Nat.ne_of_gt hlt) prs 0 [] 0 0
    { s with heap := h1.push { cls := .type "list_iterator", data := .fields #[.ref l, .int 0 0] }, toks := tk1 } (by rw [hsz, Nat.zero_add]) (by rw [List.length_nil, Nat.zero_add]; exact hln)
    (fun j q e => by
      obtain ⟨b, u, e1, e2, e3⟩ := ht j q e
      have hb : b < s.heap.objs.size := e2.lt
      exact ⟨b, u, by rw [Nat.zero_add]; exact e1, Nat.ne_of_lt hb, Nat.ne_of_lt (Nat.lt_trans hb hS1), e2.keeps fun c o z => k2 _ _ (hk1 _ _ (k0 _ _ z)), e3⟩)
    ⟨_, Heap.get?_push_size _ rfl, rfl, rfl⟩ (hl1.at fun o e => k2 _ _ e) ((hnew.at fun o e => hk1 _ _ e).at fun o e => k2 _ _ e)
    (fun h' tk hd' k => ⟨rfl, h h' tk hd' fun b o e => k b o (Nat.ne_of_lt (Heap.lt_size e)) (Nat.ne_of_lt (Nat.lt_trans (Heap.lt_size e) hS1)) (k2 _ _ (hk1 _ _ (k0 _ _ e)))⟩)
  first
    | exact wpAny_pure ⟨plainId_quiet ud_plain _, key⟩
    | exact wpAny_bind (wpAny_pure (wpAny_pure ⟨plainId_quiet ud_plain _, key⟩))
end
section
variable {X : Cx}
theorem pairs_of {pins : List (Addr × Obj)} {σ : St} {H : Hp} {s : Shared} (I : Inv X pins σ H s) : ∀ {ps : List Addr} {kvs : List (Key × V)}, Paired (fun p kv => SqT X.K H p [kV kv.1, kv.2]) ps kvs →
    ∃ prs : List (Key × Value), KV kvs prs ∧ prs.length = ps.length ∧ ∀ (j : Nat) (q : Key × Value), prs[j]? = some q → ∃ (b : Addr) (u : Value), ps[j]? = some b ∧ IsTup s.heap b #[u, q.2] ∧ keyIs q.1 u = true
  | _, _, .nil => ⟨[], .nil, rfl, fun j q e => by simp at e⟩
  | _, _, .cons (a := p) (b := kv) h t => by
    obtain ⟨prs, r, hl, hp⟩ := pairs_of I t
    obtain ⟨its, rv, ht, _⟩ := I.tuple h
    obtain ⟨u, y, ei, ru, ry⟩ := vals2 rv
    subst ei
    refine ⟨(kv.1, y) :: prs, .cons ⟨rfl, ry⟩ r, by rw [List.length_cons, List.length_cons, hl], fun j q e => ?_⟩
    cases j with
    | zero =>
      have e' : (kv.1, y) = q := Option.some.inj e
      subst e'
      exact ⟨p, u, rfl, ht, kV_is (P := X.prog) (w := X.w) ru⟩
    | succ j =>
      obtain ⟨b, u', e1, e2, e3⟩ := hp j q (by simpa using e)
      exact ⟨b, u', by simpa using e1, e2, e3⟩
theorem refs_at : ∀ {ps : List Addr} {us : List Value}, Vals (ps.map V.ref) us → us = ps.map Value.ref
  | [], us, r => by
    rw [List.map_nil] at r
    cases r
    rfl
  | p :: ps, us, r => by
    rw [List.map_cons] at r
    cases r with
    | cons h t =>
      cases h
      rw [List.map_cons, ← refs_at t]
theorem call_dictP (hcalm : X.calm = true) : CallR X (.type "dict") (fun xs H Q => ∃ (a : Addr) (ps : List Addr) (kvs : List (Key × V)), xs = [.ref a] ∧ SqL X.K H a (ps.map V.ref) ∧ Paired (fun p kv => SqT X.K H p [kV kv.1, kv.2]) ps kvs ∧
    ∀ p, H p = none → Q (.ref p) (upd H p (.dK (mergeK [] kvs)))) := by
  intro pins s σ H xs us Q I r q
  obtain ⟨a, ps, kvs, ex, hq, hp, q⟩ := q
  subst ex
  obtain ⟨u, eu, rx⟩ := vals1 r
  subst eu
  cases rx
  obtain ⟨its, rv, pl, hz⟩ := I.list hq
  have ei := refs_at rv
  subst ei
  rw [List.length_map] at hz
  obtain ⟨prs, rel, hl, hpr⟩ := pairs_of I hp
  obtain ⟨o, n, ho, hc, hd, hdat⟩ := pl
  refine call_dict_pairs (prs := prs) (I.ok.hd hcalm) ho hc hd hdat (by simp [hl]) (by rw [hl]; exact hz) (fun j q' e => ?_) fun h' tk hd' k => ?_
  · obtain ⟨b, u, e1, e2, e3⟩ := hpr j q' e
    exact ⟨b, u, by simp [e1], e2, e3⟩
  · have hm : (s.heap.objs.size == sysModules) = false := beq_eq_false_iff_ne.mpr (Nat.ne_of_gt I.big)
    have hlen : (mergeK [] kvs).length ≤ sizeLine := by
      refine Nat.le_trans (length_mergeK kvs []) ?_
      rw [List.length_nil, Nat.zero_add, rel.length, hl]
      exact hz
    exact ⟨.ref s.heap.objs.size, upd H s.heap.objs.size (.dK (mergeK [] kvs)), I.laid (t' := tk) k (Nat.le_refl _) (show ObjOk X.prog X.w _ _ _ (.dK (mergeK [] kvs)) from ⟨hlen, hm, merged [] prs, KV.merge rel .nil, hd'⟩), rfl, q _ (I.hok.fresh (Nat.le_refl _))⟩
end
end L2
namespace L2
open PySem PySem.Spec PyProof.Rows
section
variable {X : Cx} {pins : List (Addr × Obj)} {σ : St} {H : Hp} {s : Shared} {h' : Heap}
theorem Inv.turnedNew {t' : Nat} {ch : List Addr} {T : Addr} {ob : HO} (I : Inv X pins σ H s) (k : ∀ b o, b ∉ ch → s.heap.get? b = some o → h'.get? b = some o) (hf : ∀ b ∈ ch, FpOk X pins H b) (hT : s.heap.objs.size ≤ T)
    (new : ObjOk X.prog X.w (upd H T ob) h' T ob) : Inv X pins σ (upd H T ob) { s with heap := h', toks := t' } := by
  have hn : H T = none := I.hok.fresh hT
  have nit : ∀ b u, H b = some u → b ∉ ch := fun b u e z => by
    have q := (hf b z).1
    rw [q] at e; cases e
  refine I.step (g' := s.gens) (d' := s.drawn) (ch := ch) (fun b hb => ⟨(hf b hb).2.2.2.1, (hf b hb).2.1, (hf b hb).2.2.2.2.1, (hf b hb).2.2.2.2.2⟩) (fun b o _ _ hc e _ => k b o hc e) (fun b o _ _ hc e _ => ⟨o.slots, k b o hc e⟩)
    (fun b o _ e n => ?_) (fun b o hc e => ⟨o, k b o hc e⟩) (fun b xs e => ?_) (fun b o u e => ?_) (fun b ps e => ⟨#[], ?_⟩) (fun m hm => ?_) (fun b u e => ?_) I.bare
  · rw [upd_ne (Nat.ne_of_lt (Nat.lt_of_lt_of_le (Heap.lt_size e) hT))]; exact n
  · rw [upd_ne (ne_of_none e hn)]; exact e
  · rw [upd_ne (ne_of_none e hn)]; exact e
  · rw [upd_ne (ne_of_none e hn), e]; simp
  · obtain ⟨o, es, ep, ho, r⟩ := hm
    exact ⟨o, es, ep, k _ o (fun z => (hf _ z).2.1 rfl) ho, r⟩
  · by_cases hb : b = T
    · subst hb
      rw [upd_same] at e
      cases e
      exact new
    · rw [upd_ne hb] at e
      refine (I.hok b u e).stay (fun c v hc q => k c v ?_ q) (fun c q => by rw [upd_ne (ne_of_none q hn)]; exact q) fun c xs q => by rw [upd_ne (ne_of_none q hn)]; exact q
      rcases hc with z | z
      · rw [z]; exact nit b u e
      · exact nit c _ z
end
section
variable {X : Cx}
theorem pi_one {tg : Expr} {pins : List (Addr × Obj)} {σ : St} {H : Hp} {s : Shared} {R : It → Hp → Prop} {J : It} {tn : Nat → Heap → Prop} {tk : Nat} (I : Inv X pins σ H s) (o : Obj)
    (T : Turn X.prog X.w X.K tg J [s.heap.objs.size] s.heap.objs.size tn) (st : tn 0 (s.heap.push o)) (q : R J H) : PIE X pins σ tg R (.ref s.heap.objs.size) { s with heap := s.heap.push o, toks := tk } := by
  refine ⟨s.heap.objs.size, [s.heap.objs.size], tn, J, H, rfl, I.kept fun b ob e => Heap.get?_push_of_some _ e, T, st, fun b hb => ?_, q⟩
  have e : b = s.heap.objs.size := by simpa using hb
  subst e
  exact I.fpOk (Nat.le_refl _) (I.hok.fresh (Nat.le_refl _))
end
def RgC (i j c : Int) (n : Nat) : Prop := c ≠ 0 ∧ c.natAbs < 1073741824 ∧ Builtin.Range.small i j c = true ∧ Builtin.Range.rangeSize i j c = n
theorem RgC.neg {i j : Int} (ha : -(2 ^ 62) ≤ i) (ha' : i < 2 ^ 62) (hb : -(2 ^ 62) ≤ j) (hb' : j < 2 ^ 62) : RgC i j (-1) (i - j).toNat :=
  ⟨by decide, by decide, PySem.W.small_down ha ha' hb hb', PySem.W.rangeSize_downNat i j⟩
section
variable {X : Cx} {tg : Expr}
end
section
variable {X : Cx} {tg : Expr}
end
def Its (x : Str) : It := ⟨fun i _ => i < x.cps.size, fun i H v H' => H' = H ∧ ∃ c, x.cps[i]? = some c ∧ v = .str ⟨#[c]⟩, fun i _ => x.cps.size ≤ i⟩
theorem turn_str {P : Program} {w : World} {K : PySem.W.Frag} {tg : Expr} (it : Addr) (x : Str) (t : Tok) (ty : String) (hty : ty = "str_ascii_iterator" ∨ ty = "str_iterator") :
    Turn P w K tg (Its x) [it] it (fun i h => h.IsStrIter it ty x t i) where
  mem := by simp
  obj := fun i h st b hb => by
    have e : b = it := by simpa using hb
    subst e
    obtain ⟨o, e, c, d⟩ := st
    exact ⟨o, e, fun v z => by rw [d] at z; cases z⟩
  keep := fun i h h' st k => let ⟨o, ho, r⟩ := st; ⟨o, k it (by simp) o ho, r⟩
  item := by
    intro X hP hw hK hc i pins s σ H E I hf st hg
    subst hP hw hK
    obtain ⟨f0, f1, f2, f3, f4, f5⟩ := hf it (by simp)
    have W : Walks X.prog X.w X.A it [it] [it] x.cps.size (SignAt x) (fun i h => h.IsStrIter it ty x t i) := by
      rcases hty with e | e
      · rw [e]; exact Walks.strAscii (I.ok.hd hc) it x t
      · rw [e]; exact Walks.strWide (I.ok.hd hc) it x t
    have hno : ["enumerate", "zip", "dict_itemiterator", "dict_reverseitemiterator", "odict_iterator", "itertools.zip_longest", "itertools.pairwise"].contains ty = false := by
      rcases hty with e | e
      · rw [e]; decide
      · rw [e]; decide
    refine W.item i s _ _ hg st fun v h' tk hv st' kk => ?_
    obtain ⟨c, u, hcx, rfl⟩ := hv
    have I1 : Inv X pins σ H { s with heap := h', toks := tk } := I.turned (fun b o hb e => kk b o (by simpa using hb) e) f0 f1 f3 f4 f5
    obtain ⟨oi, e, cc, dd⟩ := id st'
    exact ⟨_, rfl, go_of (s := { s with heap := h', toks := tk }) e cc dd hno ⟨.str ⟨#[c]⟩, H, I1, ⟨u, rfl⟩, ⟨rfl, c, hcx, rfl⟩, st', fun b hb => (hf b hb).1⟩⟩
  done := by
    intro X hP hw hK hc i pins s σ H E I hf st hg
    subst hP hw hK
    obtain ⟨f0, f1, f2, f3, f4, f5⟩ := hf it (by simp)
    have hx : x.cps[i]? = none := Array.getElem?_eq_none hg
    rcases hty with e | e
    · rw [e] at st
      exact wpAny_pyNext_ascii_end (I.ok.hd hc) st hx fun h' eb => ⟨rfl, I.turned (t' := s.toks) (fun b o hb e => eb b o hb e) f0 f1 f3 f4 f5⟩
    · rw [e] at st
      exact wpAny_pyNext_wide_end (I.ok.hd hc) st hx fun h' eb => ⟨rfl, I.turned (t' := s.toks) (fun b o hb e => eb b o hb e) f0 f1 f3 f4 f5⟩
  self := fun A i s Q E st h => by
    rcases hty with e | e
    · rw [e] at st; exact wpAny_pyIter_striter_ascii st h
    · rw [e] at st; exact wpAny_pyIter_striter_wide st h
def iStr (te : TE) : TI := fun σ H R => te σ H fun v H1 => ∃ x, v = .str x ∧ R (Its x) H1
theorem pi_str {X : Cx} {tg e : Expr} {te : TE} (he : PE X e te) : PI X tg e (iStr te) := by
  intro pins s σ H R I h
  refine thn (he pins s σ H _ I h) fun v s1 ⟨y, H1, I1, r1, x, ex, q⟩ => ?_
  subst ex
  obtain ⟨t, rfl⟩ := r1
  cases ha : x.cps.all (· < 128)
  · exact wpAny_pyIter_wide ha (pi_one (tk := s1.toks) I1 _ (turn_str _ x t "str_iterator" (.inr rfl)) ⟨_, Heap.get?_push_size _ rfl, rfl, rfl⟩ q)
  · exact wpAny_pyIter_ascii ha (pi_one (tk := s1.toks) I1 _ (turn_str _ x t "str_ascii_iterator" (.inl rfl)) ⟨_, Heap.get?_push_size _ rfl, rfl, rfl⟩ q)
section
variable {prog : Program} {w : World} {A : Around} {E : Value → Shared → Prop} {s : Shared}
end
section
variable {X : Cx} {pins : List (Addr × Obj)} {σ : St} {H : Hp} {s : Shared} {d : Addr} {o : Obj}
end
section
variable {P : Program} {w : World} {K : PySem.W.Frag} {tg : Expr} {d : Addr} {o : Obj} {es : Array DictEntry} {ep : Nat}
end
section
variable {X : Cx} {tg e : Expr} {td : TE} {apos cpos : Pos}
end
end L2
section 
namespace Bits
open PySem PyProof.Rows
end Bits
end 
section 
namespace TL
open PySem PySem.Builtin PySem.Builtin.Str PySem.StrLaws
abbrev tl (x : Str) : List Nat := x.cps.toList
theorem len_tl (x : Str) : x.length = (tl x).length := by simp [tl, Str.length]
theorem tl_append (x y : Str) : tl (x ++ y) = tl x ++ tl y := by
  show (x ++ y).cps.toList = _
  rw [Str.cps_append, Array.toList_append]
def pre (S l : List Nat) : Bool := l.take S.length == S
def par (S : List Nat) : List Nat → List Nat → Option (List Nat × List Nat)
  | _, [] => none
  | acc, c :: r => if pre S (c :: r) = true then some (acc, (c :: r).drop S.length) else par S (acc ++ [c]) r
def joinL (S : List Nat) : List (List Nat) → List Nat
  | [] => []
  | [p] => p
  | p :: q :: r => p ++ (S ++ joinL S (q :: r))
theorem tl_join (y : Str) : ∀ parts : List Str, tl (Str.join y parts) = joinL (tl y) (parts.map tl)
  | [] => rfl
  | [_] => rfl
  | x :: z :: r => by
    show tl (x ++ y ++ Str.join y (z :: r)) = tl x ++ (tl y ++ joinL (tl y) ((z :: r).map tl))
    rw [tl_append, tl_append, tl_join y (z :: r), List.append_assoc]
theorem join_eq (y : Str) (parts : List Str) : Txt.join y parts = Str.join y parts := glued_eq_join y parts
end TL
end 
namespace L2
open PySem PySem.Spec PyProof.Rows
theorem strs_of_vals : ∀ {ys : List Str} {us : List Value}, Vals (ys.map V.str) us → StrsAre us ys
  | [], _, .nil => .nil
  | y :: ys, _, .cons r t => by
    obtain ⟨k, rfl⟩ := r
    exact .cons y k (strs_of_vals t)
section
variable {X : Cx} {pins : List (Addr × Obj)} {σ : St} {H : Hp} {s : Shared} {Q : VK}
end
section
variable {X : Cx}
theorem mt_join : MtR X "str.join" (fun x xs H Q => ∃ a p, ∃ ys : List Str, x = .str a ∧ xs = [.ref p] ∧ (SqL X.K H p (ys.map V.str) ∨ SqT X.K H p (ys.map V.str)) ∧
    (ys.map (·.length)).sum + ys.length * a.length ≤ 16777216 ∧ Q (.str (Txt.join a ys)) H) := by
  intro pins s σ H x xs v us Q I rx rs h
  obtain ⟨a, p, ys, rfl, rfl, hp, hz, h⟩ := h
  obtain ⟨t, rfl⟩ := rx
  cases rs with
  | cons r1 rs =>
    cases rs
    cases r1
    rcases hp with hp | hp
    · obtain ⟨its, r, ⟨o, n, ho, hc, _, hd⟩, _⟩ := I.list hp
      exact PyProof.Rows.join_list (items := its.toArray) ⟨o, ho, hc, n, hd⟩ (by rw [List.toList_toArray]; exact strs_of_vals r) hz fun t' k => ⟨.str _, H, I.tok k, ⟨t', rfl⟩, h⟩
    · obtain ⟨its, r, ht, _⟩ := I.tuple hp
      exact PyProof.Rows.join_tuple (items := its.toArray) ht (by rw [List.toList_toArray]; exact strs_of_vals r) hz fun t' k => ⟨.str _, H, I.tok k, ⟨t', rfl⟩, h⟩
end
section
variable {X : Cx} {o e : Expr} {to te : TE}
def tM1 (r : V → List V → Hp → VK → Prop) (to te : TE) : TE := fun σ H Q => to σ H fun x H1 => (∃ a, x = .str a) ∧ te σ H1 fun y H2 => r x [y] H2 Q
theorem pe_m1 {id : String} {name : Str} {apos pos : Pos} {r : V → List V → Hp → VK → Prop} (slot : Slot "str" name id) (ty : typeOf (.builtin id) = pure (.type "method_descriptor")) (rule : MtR X id r) (ho : PE X o to) (he : PE X e te)
    (hs : starEach [e] X.env = [(false, eval e X.env)] := by rfl) (hbase : attributeBase o name X.env (eval o X.env) = eval o X.env := by rfl) (hline : (apos.endLine == pos.line) = true := by rfl) :
    PE X (.Call (.Attribute o name apos) [e] [] pos) (tM1 r to te) := by
  intro pins s σ H Q I h
  refine PySem.Call_method1 hbase hs hline (thn (ho pins s σ H _ I h) fun v s1 ⟨x, H1, I1, r1, q1⟩ => ?_)
  obtain ⟨⟨a, rfl⟩, q1⟩ := q1
  obtain ⟨t, rfl⟩ := _root_.id r1
  refine ⟨"str", _, F.plainAttrs_str, slot, ty, typeIs_str _ _ _, (fun _ e => nomatch e), Calls.callWith_builtin rfl (Calls.evalArgs_plain (Calls.spliced_cons ?_))⟩
  exact thn (he pins s1 σ H1 _ I1 q1) fun u s2 ⟨y, H2, I2, r2, q2⟩ => Calls.spliced_nil (rule pins s2 σ H2 _ [y] _ [u] Q I2 r1 (.cons r2 .nil) q2)
theorem pe_join {apos pos : Pos} (ho : PE X o to) (he : PE X e te) (hs : starEach [e] X.env = [(false, eval e X.env)] := by rfl) (hbase : attributeBase o "join" X.env (eval o X.env) = eval o X.env := by rfl) (hline : (apos.endLine == pos.line) = true := by rfl) :
    PE X (.Call (.Attribute o "join" apos) [e] [] pos) (tM1 (fun x xs H Q => ∃ a p, ∃ ys : List Str, x = .str a ∧ xs = [.ref p] ∧ (SqL X.K H p (ys.map V.str) ∨ SqT X.K H p (ys.map V.str)) ∧
      (ys.map (·.length)).sum + ys.length * a.length ≤ 16777216 ∧ Q (.str (Txt.join a ys)) H) to te) :=
  pe_m1 F.slot_str_join F.type_str_join mt_join ho he hs hbase hline
end
end L2
namespace L2
open PySem PySem.Spec PyProof.Rows
section
variable {X : Cx}
theorem op_in_sign : OpR X (compareOp .In) (fun x y H Q => ∃ (c : Nat) (z : Str), x = .str ⟨#[c]⟩ ∧ y = .str z ∧ Q (.bl (decide (c ∈ z.cps.toList))) H) := by
  intro pins s σ H x y v u Q I rx ry h
  obtain ⟨c, z, rfl, rfl, q⟩ := h
  obtain ⟨t, rfl⟩ := rx
  obtain ⟨t', rfl⟩ := ry
  exact PyProof.Rows.in_str (fin_bl I q (PySem.StrLaws.found_one z c).symm)
theorem op_notIn_sign : OpR X (compareOp .NotIn) (fun x y H Q => ∃ (c : Nat) (z : Str), x = .str ⟨#[c]⟩ ∧ y = .str z ∧ Q (.bl (!decide (c ∈ z.cps.toList))) H) := by
  intro pins s σ H x y v u Q I rx ry h
  obtain ⟨c, z, rfl, rfl, q⟩ := h
  obtain ⟨t, rfl⟩ := rx
  obtain ⟨t', rfl⟩ := ry
  exact PyProof.Rows.notIn_str (fin_bl I q (congrArg Bool.not (PySem.StrLaws.found_one z c).symm))
end
theorem IsPart.raw {v : Value} {o : Option Int} (p : IsPart v o) : ∃ l : Option (Int × Tok), v = partValue l ∧ l.map (·.1) = o := by
  cases p with
  | none => exact ⟨none, rfl, rfl⟩
  | int i t => exact ⟨some (i, t), rfl, rfl⟩
def clipS (n d : Nat) : Option Int → Int
  | none => (d : Int)
  | some i => max 0 (min (if i < 0 then i + (n : Int) else i) (n : Int))
theorem clipS_eq (n d : Nat) (o : Option Int) : clipS n d o = ((HT.sIx n d o : Nat) : Int) := by
  cases o with
  | none => rfl
  | some v =>
    show max (0 : Int) (min (if v < 0 then v + (n : Int) else v) (n : Int)) = (((if v < 0 then (v + (n : Int)).toNat else min v.toNat n) : Nat) : Int)
    by_cases hv : v < 0
    · simp only [if_pos hv]
      omega
    · simp only [if_neg hv]
      omega
theorem sidx_clip (a b : Option Int) (n : Nat) : Builtin.Str.strSliceIndices a b 1 n = sliceRange (clipS n 0 a) (clipS n n b) 1 := by
  have h1 : ((1 : Int) > 0) = True := by simp
  cases a <;> cases b <;> first
    | rfl
    | (simp only [Builtin.Str.strSliceIndices, clipS, h1, if_true]; rfl)
    | simp [Builtin.Str.strSliceIndices, clipS]
theorem sidx (a b : Option Int) (n : Nat) : Builtin.Str.strSliceIndices a b 1 n = (List.range (HT.sIx n n b - HT.sIx n 0 a)).map (fun k => HT.sIx n 0 a + k) := by
  rw [sidx_clip, clipS_eq, clipS_eq]
  generalize HT.sIx n 0 a = p
  generalize HT.sIx n n b = q
  simp only [sliceRange, show ((1 : Int) > 0) = True from by simp, if_true]
  by_cases hlt : (p : Int) < q
  · have e3 : (((q : Int) - p + 1 - 1) / 1).toNat = q - p := by first | omega | (simp; done) | (simp; omega)
    simp only [hlt, if_true, e3]
    refine List.map_congr_left fun k _ => ?_
    omega
  · have : q - p = 0 := by omega
    simp [hlt, this]
def cutS (z : Str) (lo hi : Option Int) : Str :=
  ⟨((z.cps.toList.drop (HT.sIx z.length 0 lo)).take (HT.sIx z.length z.length hi - HT.sIx z.length 0 lo)).toArray⟩
theorem sliceText_cut (z : Str) (lo hi : Option Int) : PySem.StrLaws.sliceText z lo hi = cutS z lo hi := by
  have h1 : HT.sIx z.length 0 lo ≤ z.length := HT.sIx_le _ _ (Nat.zero_le _) _
  have h2 : HT.sIx z.length z.length hi ≤ z.length := HT.sIx_le _ _ (Nat.le_refl _) _
  have hp : HT.sIx z.length 0 lo ≤ max (HT.sIx z.length 0 lo) (HT.sIx z.length z.length hi) := Nat.le_max_left _ _
  have hq : max (HT.sIx z.length 0 lo) (HT.sIx z.length z.length hi) ≤ z.length := Nat.max_le.mpr ⟨h1, h2⟩
  have hd : max (HT.sIx z.length 0 lo) (HT.sIx z.length z.length hi) - HT.sIx z.length 0 lo = HT.sIx z.length z.length hi - HT.sIx z.length 0 lo := by omega
  have e : Builtin.Str.strSliceIndices lo hi 1 z.length =
      Builtin.Str.strSliceIndices (some ((HT.sIx z.length 0 lo : Nat) : Int)) (some ((max (HT.sIx z.length 0 lo) (HT.sIx z.length z.length hi) : Nat) : Int)) 1 z.length := by
    rw [PySem.StrLaws.strSliceIndices_plain hp hq, hd, sidx]
  have e2 : PySem.StrLaws.sliceText z lo hi =
      PySem.StrLaws.sliceText z (some ((HT.sIx z.length 0 lo : Nat) : Int)) (some ((max (HT.sIx z.length 0 lo) (HT.sIx z.length z.length hi) : Nat) : Int)) := by
    unfold PySem.StrLaws.sliceText
    rw [e]
  rw [e2, PySem.StrLaws.sliceText_nat z hp hq, hd]
  rfl
theorem cutS_length (z : Str) (lo hi : Option Int) : (cutS z lo hi).length ≤ z.length := by
  show (((z.cps.toList.drop (HT.sIx z.length 0 lo)).take (HT.sIx z.length z.length hi - HT.sIx z.length 0 lo)).toArray).size ≤ z.cps.size
  rw [List.size_toArray, List.length_take, List.length_drop, Array.length_toList]
  omega
def rSlS : V → Option Int → Option Int → Hp → VK → Prop := fun x lo hi H Q => ∃ z, x = .str z ∧ z.length ≤ sizeLine ∧ Q (.str (cutS z lo hi)) H
theorem sl_str {X : Cx} : SlR X rSlS := by
  intro pins s σ H x v vl vu lo hi sl Q I rx hs pl pu h
  obtain ⟨z, rfl, hz, q⟩ := h
  obtain ⟨t, rfl⟩ := rx
  obtain ⟨os, hos, hcs, hds⟩ := hs
  obtain ⟨l, rfl, rfl⟩ := IsPart.raw pl
  obtain ⟨u, rfl, rfl⟩ := IsPart.raw pu
  refine ⟨"str", _, F.slot_str_getitem.lookup, typeIs_str _ _ _, ?_⟩
  refine wpAny_getItem_str_slice (l := l) (u := u) (st := none) ⟨os, hos, hcs, hds⟩ rfl ?_
  have hl : (PySem.StrLaws.sliceText z (l.map (·.1)) (u.map (·.1))).length ≤ sizeLine := by
    rw [sliceText_cut]
    exact Nat.le_trans (cutS_length z _ _) hz
  rw [← sliceText_cut] at q
  unfold PySem.StrLaws.sliceText at q hl
  show Made.post (if ((1 : Int) == 1 && (Builtin.Str.strSliceIndices (l.map (·.1)) (u.map (·.1)) 1 z.length).length == z.length) = true then Made.val (.str z t)
    else Made.str ⟨((Builtin.Str.strSliceIndices (l.map (·.1)) (u.map (·.1)) 1 z.length).filterMap (z.cps[·]?)).toArray⟩) (EP X pins σ Q) s
  by_cases c : ((1 : Int) == 1 && (Builtin.Str.strSliceIndices (l.map (·.1)) (u.map (·.1)) 1 z.length).length == z.length) = true
  · rw [if_pos c] at q ⊢
    exact ⟨.str z, H, I, ⟨t, rfl⟩, q⟩
  · rw [if_neg c] at q hl ⊢
    exact ⟨hl, .str _, H, I.tok _, ⟨_, rfl⟩, q⟩
end L2
namespace Att
open PySem PySem.W PySem.Calls PyProof.Rows
theorem ints_of_wellAll {P : Params} {h : Heap} : ∀ (ns : List Int) (vs : List Value), WellAll P h vs (ns.map WData.int) → IntsAre vs ns := by
  intro ns
  induction ns with
  | nil =>
    intro vs w
    rw [List.map_nil] at w
    cases w
    exact .nil
  | cons n ns ih =>
    intro vs w
    rw [List.map_cons] at w
    cases w with
    | cons a b =>
      cases a
      exact .cons _ _ (ih _ b)
theorem script_of {l : OpenLaw} {n : Nat} (hn : l.most = some n) {P : Params} {h : Heap} {args : List WData} {vals : List Value}
    (hpre : l.row.toRowW.claim.pre args = true) (hwl : WellAll P h vals args) :
    ∃ a vs ns, vals = [Value.ref a] ∧ args = [WData.list (ns.map WData.int)] ∧ h.get? a = some { cls := .type "list", data := .seq vs.toArray } ∧ IntsAre vs ns ∧ ns.length ≤ n := by
  have hsh : WShape.hasAll [] args [.list .int] = true := (pre_splitW hpre).1
  have hc : l.pre.holds [] { args := args } = true := (pre_splitW hpre).2
  obtain ⟨d, r, rfl, h1, h2⟩ := hasAllW_cons hsh
  obtain rfl := hasAllW_nil h2
  obtain ⟨xs, rfl, h3⟩ := hasW_list h1
  obtain ⟨ns, rfl⟩ := items_int h3
  have hlen : ns.length ≤ n := by
    unfold OpenLaw.pre at hc
    have h4 : (WTm.not (.lt (.lit (.int (n : Int))) (.len (.arg 0)))).holds [] { args := [.list (ns.map .int)] } = true := by
      have h4 := (holds_andW hc).1
      rw [hn] at h4
      exact h4
    have h5 := condW_of h4 (w_not (w_lt w_lit (w_len_list (w_arg rfl))))
    rw [List.length_map] at h5
    refine Nat.le_of_not_lt fun q => ?_
    have q' : (n : Int) < ((ns.length : Nat) : Int) := by omega
    first
      | (rw [decide_eq_true q'] at h5; exact absurd h5 (by decide))
      | (simp at h5; omega)
  cases hwl with
  | cons w1 w2 =>
    cases w2
    cases w1 with
    | list ho hall => exact ⟨_, _, ns, rfl, rfl, ho, ints_of_wellAll ns _ hall, hlen⟩
theorem post_true (l : OpenLaw) (args : List WData) : l.row.toRowW.claim.post args (.bool true) args = true :=
  postW_of (r := l.row.toRowW) (X := (true == true))
    (show WShape.has [] (.bool true) .bool = true by first | rfl | decide | simp [WShape.has, WShape.arms, WShape.armsAll])
    (show (WTm.eq .res (.lit (.bool true))).value [] { args := args, res := some (.bool true), after := args } = some (.bool (true == true)) from w_eq_bool (w_res rfl) w_lit) rfl
theorem attach_call {l : OpenLaw} {n : Nat} {q : Program} {loose : List Str} {XP : (Str → Option Value) → Heap → Prop} {YP : World → Heap → Prop} {d : DefRec}
    (hn : l.most = some n) (hdf : d.params.defaults = [])
    (call : ∀ (w : World) (s₀ s₁ : Shared) (mg mb : Str → Option Value) (fa : Addr) (o : Obj) (pm cd doc : Value) (a : Addr) (vs : List Value) (ns : List Int),
      Ground q loose [] XP w s₀ mg mb s₁.heap → YP w s₁.heap →
      s₁.heap.get? fa = some o → o.data = .func (docDef d.name d.params d.body d.scope pm cd doc) → s₁.heap.CodeRec cd d.name → mg d.name = some (.ref fa) →
      s₁.heap.get? a = some { cls := .type "list", data := .seq vs.toArray } → IntsAre vs ns → ns.length ≤ n → s₁.gens = #[] →
      codeAny (model l.prog w) callerA (.call (.ref fa) ⟨[.ref a], []⟩) (fun r s' => r = .ok (.ret (.bool true)) ∧ OldK s₁.heap s'.heap ∧ s'.os = s₁.os ∧ AllBare s'.gens) s₁) :
    WalkO q loose XP YP l.row.toRowW d [] (fun f vs => PySem.call f vs) := by
  intro w s₀ s₁ mg mb G Y fa o pm cd doc dV kV ho hd hcd hD hmg hg args vals as hpre hlay hrd hwl hlo
  obtain rfl : dV = .none := Dflts.none hD hdf
  obtain rfl : kV = .none := Dflts.noKw hD
  obtain ⟨a, vs, ns, rfl, rfl, hobj, hints, hlen⟩ := script_of hn hpre hwl
  refine enter_call (codeAny_mono (call w s₀ s₁ mg mb fa o pm cd doc a vs ns G Y ho (fd_plain hd) hcd hmg hobj hints hlen hg) fun r s' hq => ?_)
  obtain ⟨rfl, h2, h3, h4⟩ := hq
  exact ⟨.inl ⟨.bool true, .bool true, [], rfl, fun _ => rfl, .bool true, post_true l _, fun _ => ⟨List.Pairwise.nil, fun _ hm => (nomatch hm)⟩⟩, h2, h3, h4⟩
section
variable {prog : Program} {w : World} {A : Around} {E : Value → Shared → Prop} {s : Shared} {K : Frag}
end
end Att
namespace L2
open PySem PySem.Spec PyProof.Rows
theorem vals_ints : ∀ {vs : List Value} {ns : List Int}, IntsAre vs ns → Vals (ns.map V.int) vs
  | _, _, .nil => .nil
  | _, _, .cons n t h => .cons ⟨t, rfl⟩ (vals_ints h)
end L2
namespace L2
open PySem PySem.Spec PyProof.Rows
abbrev KOf {K : PySem.W.Frag} {h : Heap} (_ : K.In h) : PySem.W.Frag := K
end L2
namespace L2
open PySem PySem.Spec PyProof.Rows
def defArgs (s : Stmt) : Arguments := match s with
  | .FunctionDef _ a _ _ _ _ _ _ _ _ => a
  | _ => { posonlyargs := [], args := [], vararg := none, kwonlyargs := [], kw_defaults := [], kwarg := none, defaults := [] }
def defBody (s : Stmt) : List Stmt := match s with
  | .FunctionDef _ _ b _ _ _ _ _ _ _ => b
  | _ => []
def defScope (s : Stmt) : Scope := match s with
  | .FunctionDef _ _ _ _ _ _ sc _ _ _ => sc
  | _ => { kind := .function, names := [], isGenerator := false, isCoroutine := false }
abbrev CX0 : CXT := fun _ _ _ _ _ _ => False
abbrev E0 : XK := fun _ _ _ => False
theorem pass0 {X : Cx} : Passes CX0 X E0 := fun _ _ _ _ _ _ _ h => h.elim
structure Fun (K : PySem.W.Frag) (x qual : Str) (st : Stmt) (f : Addr) (fd : FuncData) : Prop where
  ex : ∃ (oc : Value) (od : Option Addr) (kV doc pm : Value) (an : Option Addr) (cdv ct : Value) (osl : Array (Option Value)),
    fd = PySem.W.fnOf x qual (defArgs st) (defBody st) (defScope st) .none kV doc pm an cdv ct ∧ K.lookup f = some ⟨oc, od, .func fd, osl⟩ ∧ PySem.W.codeIn K cdv qual = true
  kp : PySem.W.keepIn K (.ref f) = true
section
variable {P : Program} {w : World} {K : PySem.W.Frag} {mg : Str → Option Value} {base : Heap}
theorem Fun.ok {x qual : Str} {st : Stmt} {f : Addr} {fd : FuncData} {N ps : List Str} {k : Nat} {sp : Sp} (F : Fun K x qual st f fd) (S : FnScope N ps (defScope st)) (len : ∀ vs H Q E, sp vs H Q E → vs.length = ps.length)
    (hbody : ∀ (cdv : Value) (A : Around) (outer : List Env) (s : Shared) (H : Hp) (vs : List V) (Q : VK) (E : XK), Room k (A.deeper (envOfC qual (defScope st) s.heap.objs.size f cdv)) → sp vs H Q E →
      ∃ t, PSs (cxOf CX0 P w K mg base N qual (defScope st) f cdv A outer s H E).nox (defBody st) t ∧ t { nx := fun _ H' => Q .non H', rt := Q } (start N vs) H) : FnOk P w K mg base CX0 (k + 1) f fd ps sp := by
  obtain ⟨oc, od, kV, doc, pm, an, cdv, ct, osl, rfl, lk, hcd⟩ := F.ex
  refine fn_of lk hcd S len fun A outer s H vs Q E hr hsp => ?_
  obtain ⟨t, h, q⟩ := hbody cdv A outer s H vs Q E hr hsp
  exact ⟨t, h.nox, q⟩
theorem Fun.binds {x qual : Str} {st : Stmt} {f : Addr} {fd : FuncData} {ps : List Str} (F : Fun K x qual st f fd)
    (h : ∀ (kV doc pm : Value) (an : Option Addr) (cdv ct : Value) (us : List Value), us.length = ps.length → bindArgs (PySem.W.fnOf x qual (defArgs st) (defBody st) (defScope st) .none kV doc pm an cdv ct) ⟨us, []⟩ = pure (ps.zip us)) : Binds K fd ps [] := by
  obtain ⟨oc, od, kV, doc, pm, an, cdv, ct, osl, rfl, lk, hcd⟩ := F.ex
  exact .all (h kV doc pm an cdv ct)
theorem fun_mk {x qual : Str} {st : Stmt} {f : Addr} {oc : Value} {od an : Option Addr} {osl : Array (Option Value)} {kV doc pm cdv ct : Value} (l : K.lookup f = some ⟨oc, od, .func (PySem.W.fnOf x qual (defArgs st) (defBody st) (defScope st) .none kV doc pm an cdv ct), osl⟩)
    (c : PySem.W.codeIn K cdv qual = true) (k : PySem.W.keepIn K (.ref f) = true) : Fun K x qual st f (PySem.W.fnOf x qual (defArgs st) (defBody st) (defScope st) .none kV doc pm an cdv ct) := ⟨⟨oc, od, kV, doc, pm, an, cdv, ct, osl, rfl, l, c⟩, k⟩
end
theorem hu_of {A : Around} {k : Nat} (hr : Room k A) : A.units + 1 < cLine := Nat.lt_of_le_of_lt (Nat.add_le_add_left (by decide : 1 ≤ 64) _) hr.units
theorem small1000 {n : Nat} (h : n ≤ 1000) : n < sizeLine := Nat.lt_of_le_of_lt h (by decide)
section
variable {X : Cx}
theorem call_lenD : CallR X (.builtin "len") (fun xs H Q => ∃ a kvs, xs = [V.ref a] ∧ H a = some (.dK kvs) ∧ Q (.int kvs.length) H) := by
  intro pins s σ H xs us Q I r h
  obtain ⟨a, kvs, rfl, ha, q⟩ := h
  obtain ⟨u, rfl, ru⟩ := vals1 r
  cases ru
  exact d_len I (.inl ha) fun t s' I' => ⟨.int kvs.length, H, I', ⟨t, rfl⟩, q⟩
end
theorem iteF {A B : Prop} (h : B) : if false = true then A else B := by
  rw [if_neg Bool.false_ne_true]
  exact h
theorem iteT {A B : Prop} (h : A) : if true = true then A else B := by
  rw [if_pos rfl]
  exact h
theorem ite2 {c A B : Prop} [Decidable c] (h1 : c → A) (h2 : ¬ c → B) : if c then A else B := by
  by_cases h : c
  · rw [if_pos h]
    exact h1 h
  · rw [if_neg h]
    exact h2 h
def Same (H H' : Hp) : Prop := ∀ b o, H b = some o → H' b = some o
theorem Same.refl (H : Hp) : Same H H := fun _ _ h => h
theorem Same.trans {H H1 H2 : Hp} (a : Same H H1) (b : Same H1 H2) : Same H H2 := fun c o h => b c o (a c o h)
theorem Same.free {H H' : Hp} (e : Same H H') {l : Addr} (h : H' l = Option.none) : H l = Option.none := by
  cases q : H l with
  | none => rfl
  | some o =>
    rw [e l o q] at h
    cases h
theorem Same.seq {K : PySem.W.Frag} {H H' : Hp} {a : Addr} {xs : List V} (e : Same H H') (h : SqL K H a xs) : SqL K H' a xs := by
  rcases h with (h | ⟨o, h⟩) | h
  · exact .inl (.inl (e _ _ h))
  · exact .inl (.inr ⟨o, e _ _ h⟩)
  · exact .inr h
section
variable {κ : Type} [DecidableEq κ]
end
theorem Same.made {H H1 : Hp} {x dx C : Addr} (nx : H x = Option.none) (nd : H dx = Option.none) (k : ∀ b o, (upd (upd H dx (.own x)) x (.ins C dx [])) b = some o → b ≠ x → H1 b = some o) : Same H H1 := fun b o e =>
  k b o (by rw [upd_ne (ne_of_none e nx), upd_ne (ne_of_none e nd)]; exact e) (ne_of_none e nx)
end L2
set_option Elab.async false
set_option linter.all false
set_option maxRecDepth 100000
set_option maxHeartbeats 4000000
namespace L2
open PySem PySem.Spec PyProof.Rows
section
variable {X : Cx} {a b c e : Expr} {ta tb tc te : TE} {pos : Pos}
theorem PE.imp {t t' : TE} (h : PE X e t) (k : ∀ σ H Q, t' σ H Q → t σ H Q) : PE X e t' := fun pins s σ H Q I q => h pins s σ H Q I (k σ H Q q)
theorem OpR.imp {f : Value → Value → Sem Value} {r r' : R2} (h : OpR X f r) (k : ∀ x y H Q, r' x y H Q → r x y H Q) : OpR X f r' := fun pins s σ H x y v u Q I rx ry q => h pins s σ H x y v u Q I rx ry (k x y H Q q)
theorem IxR.imp {r r' : R2} (h : IxR X r) (k : ∀ x y H Q, r' x y H Q → r x y H Q) : IxR X r' := fun va sl pins s σ H x y v u Q I rx ry q hs => h va sl pins s σ H x y v u Q I rx ry (k x y H Q q) hs
theorem CallR.imp {f : Value} {r r' : List V → Hp → VK → Prop} (h : CallR X f r) (k : ∀ xs H Q, r' xs H Q → r xs H Q) : CallR X f r' := fun pins s σ H xs us Q I rx q => h pins s σ H xs us Q I rx (k xs H Q q)
theorem PSet.imp {t t' : TSet} (h : PSet X t) (k : ∀ o i v H Q, t' o i v H Q → t o i v H Q) : PSet X t' := fun pins s σ H o i v ov iv u Q I ro ri rv q => h pins s σ H o i v ov iv u Q I ro ri rv (k o i v H Q q)
theorem PSet.or {t t' : TSet} (h : PSet X t) (h' : PSet X t') : PSet X (fun o i v H Q => t o i v H Q ∨ t' o i v H Q) := fun pins s σ H o i v ov iv u Q I ro ri rv q => by
  rcases q with q | q
  · exact h pins s σ H o i v ov iv u Q I ro ri rv q
  · exact h' pins s σ H o i v ov iv u Q I ro ri rv q
def tV (i : Nat) : TE := fun σ H Q => match σ[i]? with | some (some v) => Q v H | _ => False
theorem qv (i : Nat) {x : Str} {pos : Pos} (hN : X.N[i]? = some x := by rfl) (hv : Vis X.env.scope x := by first | exact Or.inl rfl | exact Or.inr (Or.inl rfl) | exact Or.inr (Or.inr rfl)) (hd : (x == ("__debug__" : Str)) = false := by decide)
    (hcd : (x == ("__classdict__" : Str)) = false := by decide) : PE X (.Name x pos) (tV i) := (pe_var hN hv hd hcd).imp fun σ H Q h => by
  unfold tV at h
  split at h
  · rename_i v ev
    exact ⟨v, ev, h⟩
  · exact h.elim
def rA2 (C : Int → Int → Prop) (g : Int → Int → V) : R2 := fun x y H Q => match x, y with | .int i, .int j => C i j ∧ Q (g i j) H | _, _ => False
def rA0 (g : Int → Int → V) : R2 := fun x y H Q => match x, y with | .int i, .int j => Q (g i j) H | _, _ => False
theorem of_rI {f : Value → Value → Sem Value} {C : Int → Int → Prop} {g : Int → Int → V} (h : OpR X f (rI C g)) : OpR X f (rA2 C g) := h.imp fun x y H Q q => by
  unfold rA2 at q
  split at q
  · exact ⟨_, _, rfl, rfl, q.1, q.2⟩
  · exact q.elim
theorem of_rI0 {f : Value → Value → Sem Value} {g : Int → Int → V} (h : OpR X f (rI0 g)) : OpR X f (rA0 g) := h.imp fun x y H Q q => by
  unfold rA0 at q
  split at q
  · exact ⟨_, _, rfl, rfl, q⟩
  · exact q.elim
theorem oq_sub : OpR X (binaryOp .Sub) (rA0 fun i j => .int (i - j)) := of_rI0 op_sub
theorem oq_mod : OpR X (binaryOp .Mod) (rA2 (fun _ j => 0 < j) fun i j => .int (i % j)) := of_rI op_mod
theorem oq_div : OpR X (binaryOp .FloorDiv) (rA2 CDiv fun i j => .int (i / j)) := of_rI op_fdiv
theorem oq_pow : OpR X (binaryOp .Pow) (rA2 CPow fun i j => .int (i ^ j.toNat)) := of_rI op_pow
theorem oq_lt : OpR X (compareOp .Lt) (rA0 fun i j => .bl (decide (i < j))) := of_rI0 op_lt
theorem oq_le : OpR X (compareOp .LtE) (rA0 fun i j => .bl (decide (i ≤ j))) := of_rI0 op_le
theorem oq_gt : OpR X (compareOp .Gt) (rA0 fun i j => .bl (decide (j < i))) := of_rI0 op_gt
theorem oq_ge : OpR X (compareOp .GtE) (rA0 fun i j => .bl (decide (j ≤ i))) := of_rI0 op_ge
def rAddA (K : PySem.W.Frag) : R2 := fun x y H Q => match x, y with
  | .int i, .int j => Q (.int (i + j)) H
  | .str i, .str j => i.length + j.length ≤ sizeLine ∧ Q (.str (i ++ j)) H
  | .ref p, .ref q => rCat (.ref p) (.ref q) H Q ∨ rCatT K (.ref p) (.ref q) H Q
  | _, _ => False
theorem oq_add (K : PySem.W.Frag) (hK : X.K = K := by rfl) : OpR X (binaryOp .Add) (rAddA K) := hK ▸ ((op_add.or op_add_str).or (op_cat.or op_catT)).imp fun x y H Q q => by
  unfold rAddA at q
  split at q
  · exact .inl (.inl ⟨_, _, rfl, rfl, q⟩)
  · exact .inl (.inr ⟨_, _, rfl, rfl, q.1, q.2⟩)
  · exact .inr q
  · exact q.elim
def rMulA : R2 := fun x y H Q => match x, y with
  | .int i, .int j => CMul i j ∧ Q (.int (i * j)) H
  | .ref p, .int k => rRep (.ref p) (.int k) H Q
  | _, _ => False
theorem oq_mul : OpR X (binaryOp .Mult) rMulA := (op_mul.or op_rep).imp fun x y H Q q => by
  unfold rMulA at q
  split at q
  · exact .inl ⟨_, _, rfl, rfl, q.1, q.2⟩
  · exact .inr q
  · exact q.elim
def isRef : V → Bool | .ref _ => true | _ => false
def rEqA (K : PySem.W.Frag) : R2 := fun x y H Q => match isRef x || isRef y with
  | true => rEqD K x y H Q
  | false => scal x y = true ∧ Q (.bl (decide (x = y))) H
def rNeA (K : PySem.W.Frag) : R2 := fun x y H Q => match isRef x || isRef y with
  | true => rNeD K x y H Q
  | false => scal x y = true ∧ Q (.bl (!decide (x = y))) H
theorem oq_eq (K : PySem.W.Frag) (hu : X.A.units + 64 < cLine) (hK : X.K = K := by rfl) : OpR X (compareOp .Eq) (rEqA K) := hK ▸ ((op_eqD hu).or op_eq).imp fun x y H Q q => by
  unfold rEqA at q
  split at q
  · exact .inl q
  · exact .inr q
theorem oq_ne (K : PySem.W.Frag) (hu : X.A.units + 64 < cLine) (hK : X.K = K := by rfl) : OpR X (compareOp .NotEq) (rNeA K) := hK ▸ ((op_neD hu).or op_ne).imp fun x y H Q q => by
  unfold rNeA at q
  split at q
  · exact .inl q
  · exact .inr q
theorem ix_dict (hu : X.A.units + 1 < cLine) : IxR X (fun x y H Q => ∃ p v, x = .ref p ∧ DGet H p y (some v) ∧ Q v H) := by
  intro value slice pins s σ H x y v u Q I rx ry h hs
  obtain ⟨p, z, rfl, g, q⟩ := h
  cases rx
  refine tail_any (dict_typeIs I g) PySem.F.slot_dict_getitem.lookup (d_getItem hu I g ry fun w' s3 I3 rw' => ⟨z, H, I3, rw', q⟩) hs
def rIxA (K : PySem.W.Frag) : R2 := fun x y H Q => match x, y with
  | .ref p, .int i => (∃ xs v, SqL K H p xs ∧ atI xs i = some v ∧ Q v H) ∨ (∃ xs v, SqT K H p xs ∧ atI xs i = some v ∧ Q v H) ∨ ∃ v, DGet H p (.int i) (some v) ∧ Q v H
  | .ref p, .str z => ∃ v, DGet H p (.str z) (some v) ∧ Q v H
  | .str z, .int i => z.length ≤ sizeLine ∧ ∃ c, atI z.cps.toList i = some c ∧ Q (.str ⟨#[c]⟩) H
  | _, _ => False
theorem iq (K : PySem.W.Frag) (hu : X.A.units + 1 < cLine) (hK : X.K = K := by rfl) : IxR X (rIxA K) := hK ▸ (ix_seq.or (ix_dict hu)).imp fun x y H Q q => by
  unfold rIxA at q
  split at q
  · rcases q with ⟨xs, v, h1, h2, h3⟩ | ⟨xs, v, h1, h2, h3⟩ | ⟨v, h1, h2⟩
    · exact .inl (.inl ⟨_, _, _, _, rfl, rfl, h1, h2, h3⟩)
    · exact .inl (.inr (.inl ⟨_, _, _, _, rfl, rfl, h1, h2, h3⟩))
    · exact .inr ⟨_, _, rfl, h1, h2⟩
  · obtain ⟨v, h1, h2⟩ := q
    exact .inr ⟨_, _, rfl, h1, h2⟩
  · obtain ⟨h1, c, h2, h3⟩ := q
    exact .inl (.inr (.inr ⟨_, _, _, rfl, rfl, h1, h2, h3⟩))
  · exact q.elim
theorem set_dict (hu : X.A.units + 1 < cLine) : PSet X (fun o i v H Q => ∃ p H', o = .ref p ∧ DPut H p i v H' ∧ Q H') := by
  intro pins s σ H o i v ov iv u Q I ro ri rv h
  obtain ⟨p, H', rfl, g, q⟩ := h
  cases ro
  exact d_setItem hu I g ri rv fun s4 I4 => ⟨H', I4, q⟩
def rSetA : TSet := fun o i v H Q => match o, i with
  | .ref p, .int k => (∃ xs j, H p = some (.lst xs) ∧ ixN xs.length k = some j ∧ Q (upd H p (.lst (xs.set j v)))) ∨ ∃ kvs, H p = some (.dK kvs) ∧ kvs.length < sizeLine ∧ Q (upd H p (.dK (putK kvs (.inl k) v)))
  | .ref p, .str z => ∃ kvs, H p = some (.dK kvs) ∧ kvs.length < sizeLine ∧ Q (upd H p (.dK (putK kvs (.inr z) v)))
  | _, _ => False
theorem sq (hu : X.A.units + 1 < cLine) : PSet X rSetA := (set_list.or (set_dict hu)).imp fun o i v H Q q => by
  unfold rSetA at q
  split at q
  · rcases q with ⟨xs, j, h1, h2, h3⟩ | ⟨kvs, h1, h2, h3⟩
    · exact .inl ⟨_, _, _, _, rfl, rfl, h1, h2, h3⟩
    · exact .inr ⟨_, _, rfl, DPut.k (k := .inl _) h1 h2, h3⟩
  · obtain ⟨kvs, h1, h2, h3⟩ := q
    exact .inr ⟨_, _, rfl, DPut.k (k := .inr _) h1 h2, h3⟩
  · exact q.elim
def rLenA (K : PySem.W.Frag) : List V → Hp → VK → Prop := fun xs H Q => match xs with
  | [.ref p] => (∃ ys, SqL K H p ys ∧ Q (.int ys.length) H) ∨ (∃ ys, SqT K H p ys ∧ Q (.int ys.length) H) ∨ ∃ kvs, H p = some (.dK kvs) ∧ Q (.int kvs.length) H
  | [.str z] => z.length ≤ sizeLine ∧ Q (.int z.length) H
  | _ => False
theorem cq_len (K : PySem.W.Frag) (hK : X.K = K := by rfl) : CallR X (.builtin "len") (rLenA K) := hK ▸ ((call_len_seq.or call_len_str).or call_lenD).imp fun xs H Q q => by
  unfold rLenA at q
  split at q
  · rcases q with ⟨ys, h1, h2⟩ | ⟨ys, h1, h2⟩ | ⟨kvs, h1, h2⟩
    · exact .inl (.inl ⟨_, _, rfl, .inl h1, h2⟩)
    · exact .inl (.inl ⟨_, _, rfl, .inr h1, h2⟩)
    · exact .inr ⟨_, _, rfl, h1, h2⟩
  · exact .inl (.inr ⟨_, rfl, q.1, q.2⟩)
  · exact q.elim
end
theorem oq_nin {X : Cx} (K : PySem.W.Frag) (hK : X.K = K := by rfl) : OpR X (compareOp .NotIn) (rIn K true) := by
  subst hK
  exact op_notIn_seq
theorem sq_tup {X : Cx} (K : PySem.W.Frag) (hK : X.K = K := by rfl) : SlR X (rSlT K) := by
  subst hK
  exact sl_tup
theorem sq_list {X : Cx} (K : PySem.W.Frag) (hK : X.K = K := by rfl) : SlR X (rSlL K) := by
  subst hK
  exact sl_list
def tPut (vs : List V) : TA := fun _ H Q => Q vs H
section
variable {X : Cx} {es : List Expr} {vs : List V} {j : Nat} {p : Pos}
theorem pa_n0 : PA X [] (tPut []) := pa_nil
theorem pa_cs {x : Str} (h : PA X es (tPut vs)) : PA X (.Constant (.str x) j p :: es) (tPut (.str x :: vs)) := pa_cons pe_str h rfl
theorem pa_ci {x : Int} (h : PA X es (tPut vs)) : PA X (.Constant (.int x) j p :: es) (tPut (.int x :: vs)) := pa_cons pe_int h rfl
theorem pa_cb {x : Bool} (h : PA X es (tPut vs)) : PA X (.Constant (.bool x) j p :: es) (tPut (.bl x :: vs)) := pa_cons pe_bl h rfl
theorem pa_cn (h : PA X es (tPut vs)) : PA X (.Constant .none j p :: es) (tPut (.non :: vs)) := pa_cons pe_non h rfl
end
def isC1 : Expr → V → Bool
  | .Constant (.int i) _ _, .int j => decide (i = j)
  | .Constant (.str x) _ _, .str y => decide (x = y)
  | .Constant (.bool b) _ _, .bl c => decide (b = c)
  | .Constant .none _ _, .non => true
  | _, _ => false
def isC : List Expr → List V → Bool
  | [], [] => true
  | e :: es, v :: vs => isC1 e v && isC es vs
  | _, _ => false
theorem pa_lits {X : Cx} : ∀ {es : List Expr} (vs : List V), isC es vs = true → PA X es (tPut vs)
  | [], [], _ => pa_n0
  | [], _ :: _, h => by cases h
  | _ :: _, [], h => by cases h
  | e :: es, v :: vs, h => by
    obtain ⟨h1, h2⟩ := Bool.and_eq_true_iff.mp (show (isC1 e v && isC es vs) = true from h)
    have ih := pa_lits (X := X) vs h2
    unfold isC1 at h1
    split at h1
    · cases of_decide_eq_true h1; exact pa_ci ih
    · cases of_decide_eq_true h1; exact pa_cs ih
    · cases of_decide_eq_true h1; exact pa_cb ih
    · exact pa_cn ih
    · cases h1
structure Df (P : Program) (w : World) (K : PySem.W.Frag) (mg : Str → Option Value) (base : Heap) (k : Nat) (x : Str) (ps : List Str) (dvs : List V) (sp : Sp) : Prop where
  ex : ∃ (f : Addr) (fd : FuncData) (ds : List Value), FnOk P w K mg base CX0 k f fd ps sp ∧ mg x = some (.ref f) ∧ PySem.W.keepIn K (.ref f) = true ∧ Binds K fd ps ds ∧ Vals dvs ds
section
variable {X : Cx} {k : Nat} {x : Str} {ps : List Str} {dvs : List V} {sp : Sp} {t : TA} {e : Expr} {es : List Expr} {p pos : Pos}
theorem qcall (F : Df X.prog X.w X.K X.mg X.base k x ps dvs sp) (hr : Room k X.A) (ha : PA X (e :: es) t) (hg : Gl X x := by rfl) (hdb : (x == ("__debug__" : Str)) = false := by decide) (he : starEach (e :: es) X.env = (false, eval e X.env) :: starEach es X.env := by rfl) (hpl : (backTo pos (starEach es X.env)).any (·.1) = false := by rfl) :
    PE X (.Call (.Name x p) (e :: es) [] pos) (tCall sp dvs E0 t) := by
  obtain ⟨f, fd, ds, F, hm, hk, hb, hd⟩ := F.ex
  exact pe_call F hr hg hm hk hb hd pass0 ha hdb he hpl
end
end L2
set_option Elab.async false
set_option linter.all false
set_option maxRecDepth 100000
set_option maxHeartbeats 4000000
namespace L2
open PySem PySem.Spec PyProof.Rows
theorem for_by {J : It} {n : Nat} {g : TG} {tb : TS} {D : Ends} {σ : St} {H : Hp} (Pv : Nat → St → Hp → Prop) (h0 : Pv 0 σ H) (hgo : ∀ i σ H, i < n → Pv i σ H → J.go i H) (hst : ∀ σ H, Pv n σ H → J.stop n H)
    (hs : ∀ i σ H x H', i < n → Pv i σ H → J.yld i H x H' → g x σ H' fun σ2 H2 => tb { D with nx := Pv (i + 1), ct := Pv (i + 1), bk := D.nx } σ2 H2) (hd : ∀ σ H, Pv n σ H → D.nx σ H) :
    ∃ W : Nat → Nat → St → Hp → Prop, (∃ m, W 0 m σ H) ∧ ∀ i m σ H, W i m σ H →
      (J.stop i H ∧ D.nx σ H) ∨ (J.go i H ∧ ∃ N : St → Hp → Prop, (∀ σ' H', N σ' H' → ∃ m', m' < m ∧ W (i + 1) m' σ' H') ∧ ∀ x H', J.yld i H x H' → g x σ H' fun σ2 H2 => tb { D with nx := N, ct := N, bk := D.nx } σ2 H2) := by
  refine ⟨fun i m σ H => m = n - i ∧ i ≤ n ∧ Pv i σ H, ⟨n, by simp, Nat.zero_le _, h0⟩, ?_⟩
  rintro i m σ H ⟨rfl, hi, p⟩
  by_cases hlt : i < n
  · refine .inr ⟨hgo i σ H hlt p, Pv (i + 1), fun σ' H' p' => ⟨n - (i + 1), by omega, rfl, hlt, p'⟩, fun x H' y => ?_⟩
    exact hs i σ H x H' hlt p y
  · have e : i = n := by omega
    subst e
    exact .inl ⟨hst σ H p, hd σ H p⟩
theorem lc_by {J : It} {n : Nat} {g : TG} {tt : TT} {te : TE} {vs : List Nat} {σ : St} {H1 : Hp} {D : Addr} {Qd : Hp → Prop} (Pv : Nat → Hp → Prop) (h0 : Pv 0 (upd H1 D (.lst []))) (hgo : ∀ i H, i < n → Pv i H → J.go i H) (hst : ∀ H, Pv n H → J.stop n H)
    (hs : ∀ i H x H', i < n → Pv i H → J.yld i H x H' → g x (wipe σ vs) H' fun σ2 H2 => wipe σ2 vs = wipe σ vs ∧ tt σ2 H2 fun b H3 =>
      if b = true then te σ2 H3 fun y H4 => ∃ acc, H4 D = some (.lst acc) ∧ acc.length < sizeLine ∧ Pv (i + 1) (upd H4 D (.lst (acc ++ [y]))) else Pv (i + 1) H3) (hd : ∀ H, Pv n H → Qd H) :
    ∃ W : Nat → Nat → Hp → Prop, (∃ m, W 0 m (upd H1 D (.lst []))) ∧ ∀ i m H, W i m H →
      (J.stop i H ∧ Qd H) ∨ (J.go i H ∧ ∃ Nx : Hp → Prop, (∀ H', Nx H' → ∃ m', m' < m ∧ W (i + 1) m' H') ∧ ∀ x H', J.yld i H x H' → g x (wipe σ vs) H' fun σ2 H2 => wipe σ2 vs = wipe σ vs ∧ tt σ2 H2 fun b H3 =>
        if b = true then te σ2 H3 fun y H4 => ∃ acc, H4 D = some (.lst acc) ∧ acc.length < sizeLine ∧ Nx (upd H4 D (.lst (acc ++ [y]))) else Nx H3) := by
  refine ⟨fun i m H => m = n - i ∧ i ≤ n ∧ Pv i H, ⟨n, by simp, Nat.zero_le _, h0⟩, ?_⟩
  rintro i m H ⟨rfl, hi, p⟩
  by_cases hlt : i < n
  · refine .inr ⟨hgo i H hlt p, Pv (i + 1), fun H' p' => ⟨n - (i + 1), by omega, rfl, hlt, p'⟩, fun x H' y => ?_⟩
    exact hs i H x H' hlt p y
  · have e : i = n := by omega
    subst e
    exact .inl ⟨hst H p, hd H p⟩
theorem tSeq.cut {t u : TS} {D : Ends} {σ : St} {H : Hp} (M : St → Hp → Prop) (h2 : ∀ σ' H', M σ' H' → u D σ' H') (h1 : (∀ σ' H', M σ' H' → u D σ' H') → tSeq t u D σ H) : tSeq t u D σ H := h1 h2
end L2
namespace Tm
open PySem L2
theorem same_new {H : Hp} {p : Addr} (h : H p = none) (o : HO) : Same H (upd H p o) := fun b u q => by rw [upd_ne (ne_of_none q h)]; exact q
def Up (S : List Addr) (H H' : Hp) : Prop := ∀ b o, H b = some o → b ∉ S → H' b = some o
theorem Up.refl (S : List Addr) (H : Hp) : Up S H H := fun _ _ h _ => h
theorem Up.trans {S : List Addr} {H H1 H2 : Hp} (a : Up S H H1) (b : Up S H1 H2) : Up S H H2 := fun c o h n => b c o (a c o h n) n
theorem Up.mono {S S' : List Addr} {H H' : Hp} (a : Up S H H') (h : ∀ x ∈ S, x ∈ S') : Up S' H H' := fun c o e n => a c o e fun z => n (h c z)
theorem Same.up {S : List Addr} {H H' : Hp} (a : Same H H') : Up S H H' := fun c o h _ => a c o h
theorem Up.put {S : List Addr} {R : Addr} (H : Hp) (o : HO) (h : R ∈ S) : Up S H (upd H R o) := fun c o' e n => by
  rw [upd_ne]
  · exact e
  · rintro rfl
    exact n h
theorem Up.at (R : Addr) (H : Hp) (o : HO) : Up [R] H (upd H R o) := Up.put H o (List.mem_singleton.mpr rfl)
def Frz (K : PySem.W.Frag) (H : Hp) (a : Addr) (xs : List V) : Prop := (∃ ob, H a = some (.frz ob (.lst xs))) ∨
    ∃ (o : Obj) (its : Array Value) (n : Nat), K.lookup a = some o ∧ o.cls = .type "list" ∧ o.dict = none ∧ o.data = .seq its n ∧ its.size ≤ sizeLine ∧ Vals xs its.toList
theorem Frz.sq {K : PySem.W.Frag} {H : Hp} {a : Addr} {xs : List V} (h : Frz K H a xs) : SqL K H a xs := by
  rcases h with ⟨ob, h⟩ | h
  · exact .inl (.inr ⟨ob, h⟩)
  · exact .inr h
def Soft : Option HO → Prop
  | none => True
  | some (.lst _) => True
  | some (.dK _) => True
  | some (.ins _ _ _) => True
  | some (.own _) => True
  | _ => False
theorem Frz.upd {K : PySem.W.Frag} {H : Hp} {a D : Addr} {xs : List V} {o : HO} (h : Frz K H a xs) (hD : Soft (H D)) : Frz K (upd H D o) a xs := by
  rcases h with ⟨ob, h⟩ | h
  · refine .inl ⟨ob, ?_⟩
    rw [upd_ne]
    · exact h
    · rintro rfl
      rw [h] at hD
      exact hD
  · exact .inr h
theorem Frz.same {K : PySem.W.Frag} {H H' : Hp} {a : Addr} {xs : List V} (h : Frz K H a xs) (s : Same H H') : Frz K H' a xs := by
  rcases h with ⟨ob, h⟩ | h
  · exact .inl ⟨ob, s _ _ h⟩
  · exact .inr h
theorem Frz.up {K : PySem.W.Frag} {H H' : Hp} {a : Addr} {xs : List V} {S : List Addr} (h : Frz K H a xs) (u : Up S H H') (hs : ∀ b ∈ S, Soft (H b)) : Frz K H' a xs := by
  rcases h with ⟨ob, h⟩ | h
  · refine .inl ⟨ob, u _ _ h fun z => ?_⟩
    have q := hs _ z
    rw [h] at q
    exact q
  · exact .inr h
def RowAt (K : PySem.W.Frag) (H : Hp) (R : Addr) : Prop := ∃ (a : Addr) (ns : List Int) (i s c : Int), H R = some (.lst [.ref a, .int i, .int s, .int c]) ∧ Frz K H a (ns.map V.int) ∧ ns.length ≤ 63 ∧ 0 ≤ i
theorem RowAt.put {K : PySem.W.Frag} {H : Hp} {R a : Addr} {ns : List Int} {i s c : Int} (f : Frz K H a (ns.map V.int)) (l : ns.length ≤ 63) (h : 0 ≤ i) (e : Soft (H R)) : RowAt K (upd H R (.lst [.ref a, .int i, .int s, .int c])) R :=
  ⟨a, ns, i, s, c, upd_same, f.upd e, l, h⟩
theorem RowAt.lst {K : PySem.W.Frag} {H : Hp} {R : Addr} (h : RowAt K H R) : ∃ xs, H R = some (.lst xs) := by
  obtain ⟨a, ns, i, s, c, hR, _⟩ := h
  exact ⟨_, hR⟩
theorem RowAt.soft {K : PySem.W.Frag} {H : Hp} {R : Addr} (h : RowAt K H R) : Soft (H R) := by
  obtain ⟨xs, e⟩ := h.lst
  rw [e]
  trivial
theorem RowAt.ne {K : PySem.W.Frag} {H : Hp} {R p : Addr} (h : RowAt K H R) (e : H p = none) : p ≠ R := by
  obtain ⟨xs, q⟩ := h.lst
  exact (ne_of_none q e).symm
theorem RowAt.upd {K : PySem.W.Frag} {H : Hp} {R D : Addr} (h : RowAt K H R) (n : D ≠ R) (hD : Soft (H D)) (o : HO) : RowAt K (upd H D o) R := by
  obtain ⟨a, ns, i, s, c, hR, f, hl, hi⟩ := h
  exact ⟨a, ns, i, s, c, by rw [upd_ne n.symm]; exact hR, f.upd hD, hl, hi⟩
theorem RowAt.up {K : PySem.W.Frag} {H H' : Hp} {R : Addr} {S : List Addr} (h : RowAt K H R) (u : Up S H H') (n : R ∉ S) (hs : ∀ b ∈ S, Soft (H b)) : RowAt K H' R := by
  obtain ⟨a, ns, i, s, c, hR, f, hl, hi⟩ := h
  exact ⟨a, ns, i, s, c, u _ _ hR n, f.up u hs, hl, hi⟩
theorem soft_none {H : Hp} {p : Addr} (h : H p = none) : Soft (H p) := by
  rw [h]
  trivial
theorem soft_lst {H : Hp} {p : Addr} {xs : List V} (h : H p = some (.lst xs)) : Soft (H p) := by
  rw [h]
  trivial
structure Tx (mg : Str → Option Value) : Prop where
  len : mg "len" = none
  range : mg "range" = none
  isinstance : mg "isinstance" = none
  int : mg "int" = none
  bool : mg "bool" = none
  str : mg "str" = none
  tuple : mg "tuple" = none
  list : mg "list" = none
  dict : mg "dict" = none
  min : mg "min" = none
  max : mg "max" = none
  all : mg "all" = none
  any : mg "any" = none
  enumerate : mg "enumerate" = none
  zip : mg "zip" = none
  sorted : mg "sorted" = none
theorem RowAt.same {K : PySem.W.Frag} {H H' : Hp} {R : Addr} (h : RowAt K H R) (u : Same H H') : RowAt K H' R := by
  obtain ⟨a, ns, i, s, c, hR, f, hl, hi⟩ := h
  exact ⟨a, ns, i, s, c, u _ _ hR, f.same u, hl, hi⟩
structure On (K : PySem.W.Frag) (R : Addr) (H H' : Hp) : Prop where
  row : RowAt K H' R
  up : Up [R] H H'
theorem On.refl {K : PySem.W.Frag} {R : Addr} {H : Hp} (h : RowAt K H R) : On K R H H := ⟨h, Up.refl _ H⟩
theorem On.trans {K : PySem.W.Frag} {R : Addr} {H H1 H2 : Hp} (a : On K R H H1) (b : On K R H1 H2) : On K R H H2 := ⟨b.row, a.up.trans b.up⟩
theorem On.new {K : PySem.W.Frag} {R : Addr} {H H1 : Hp} {p : Addr} (a : On K R H H1) (h : H1 p = none) (o : HO) : On K R H (upd H1 p o) := ⟨a.row.same (same_new h o), a.up.trans (Same.up (same_new h o))⟩
theorem On.same {K : PySem.W.Frag} {R : Addr} {H H1 H2 : Hp} (a : On K R H H1) (s : Same H1 H2) : On K R H H2 := ⟨a.row.same s, a.up.trans (Same.up s)⟩
theorem On.at {K : PySem.W.Frag} {R : Addr} {H H1 : Hp} {p : Addr} {o : HO} (a : On K R H H1) (e : H p = some o) (n : p ≠ R) : H1 p = some o := a.up _ _ e fun z => n (List.mem_singleton.mp z)
theorem On.fill {K : PySem.W.Frag} {R : Addr} {H H1 : Hp} {D : Addr} (a : On K R H H1) (h : H D = none) (n : D ≠ R) (e : Soft (H1 D)) (o : HO) : On K R H (upd H1 D o) :=
  ⟨a.row.upd n e o, fun b u q z => by rw [upd_ne (ne_of_none q h)]; exact a.up b u q z⟩
theorem On.none {K : PySem.W.Frag} {R : Addr} {H H1 : Hp} {p : Addr} (a : On K R H H1) (e : H1 p = none) (n : p ≠ R) : H p = none := by
  cases q : H p with
  | none => rfl
  | some o =>
    rw [a.at q n] at e
    cases e
def spDraw (K : PySem.W.Frag) (W : V → Hp → Prop) : Sp := fun vs H Q _ => ∃ (R : Addr), vs = [.ref R] ∧ RowAt K H R ∧ ∀ (v : V) (H' : Hp), On K R H H' → W v H' → Q v H'
def spTaken (K : PySem.W.Frag) : Sp := fun vs H Q _ => ∃ (R : Addr) (m : Int), vs = [.ref R, .int m] ∧ RowAt K H R ∧ 0 < m ∧ m < 1073741824 ∧ ∀ (n : Int) (H' : Hp), 0 ≤ n → n < m → On K R H H' → Q (.int n) H'
end Tm
namespace Tm
open PySem L2
def top (i : Nat) : Stmt := PySem.Challenge.pw_tagmachine_k21_whole_each_word_by_itself.main.body.getD i (.Pass ⟨0, 0, 0, 0⟩)
end Tm
set_option Elab.async false
set_option linter.all false
set_option maxRecDepth 100000
set_option maxHeartbeats 4000000
namespace L2
open PySem PySem.Spec PyProof.Rows
structure Isi where
  i : Bool
  b : Bool
  s : Bool
  n : Bool
  t : Bool
  l : Bool
def rIsi (z : Isi) (x : V) (H : Hp) (Q : VK) : Prop := match x with
  | .int _ => Q (.bl z.i) H
  | .bl _ => Q (.bl z.b) H
  | .str _ => Q (.bl z.s) H
  | .non => Q (.bl z.n) H
  | .ref a => (∃ ys, H a = some (.tup ys) ∧ Q (.bl z.t) H) ∨ ∃ ys, H a = some (.lst ys) ∧ Q (.bl z.l) H
  | _ => False
structure IsiOk (K : PySem.W.Frag) (c : Value) (z : Isi) : Prop where
  i : PySem.W.kitOne K (.type "int") c = some z.i
  b : PySem.W.kitOne K (.type "bool") c = some z.b
  s : PySem.W.kitOne K (.type "str") c = some z.s
  n : PySem.W.kitOne K (.type "NoneType") c = some z.n
  t : PySem.W.kitOne K (.type "tuple") c = some z.t
  l : PySem.W.kitOne K (.type "list") c = some z.l
theorem isi_int (K : PySem.W.Frag) : IsiOk K (.type "int") ⟨true, true, false, false, false, false⟩ := ⟨rfl, rfl, rfl, rfl, rfl, rfl⟩
theorem isi_bool (K : PySem.W.Frag) : IsiOk K (.type "bool") ⟨false, true, false, false, false, false⟩ := ⟨rfl, rfl, rfl, rfl, rfl, rfl⟩
theorem isi_str (K : PySem.W.Frag) : IsiOk K (.type "str") ⟨false, false, true, false, false, false⟩ := ⟨rfl, rfl, rfl, rfl, rfl, rfl⟩
theorem isi_tuple (K : PySem.W.Frag) : IsiOk K (.type "tuple") ⟨false, false, false, false, true, false⟩ := ⟨rfl, rfl, rfl, rfl, rfl, rfl⟩
theorem isi_list (K : PySem.W.Frag) : IsiOk K (.type "list") ⟨false, false, false, false, false, true⟩ := ⟨rfl, rfl, rfl, rfl, rfl, rfl⟩
section
variable {X : Cx} {e : Expr} {te : TE} {cls : Str} {T : String} {z : Isi} {p p' pos : Pos}
theorem cr_isi (ok : IsiOk X.K (.type T) z) : CallR X (.builtin "isinstance") (fun xs H Q => ∃ x, xs = [x, .ty T] ∧ rIsi z x H Q) := by
  intro pins s σ H xs us Q I r h
  obtain ⟨x, rfl, h⟩ := h
  cases r with
  | cons r1 r2 =>
    cases r2 with
    | cons r3 r4 =>
      cases r4
      cases (show _ = Value.type T from r3)
      cases x with
      | int i => exact isinst_ok I r1 (.int i) ok.i fun tk => ⟨.bl _, H, I.tok _, rfl, h⟩
      | bl i => exact isinst_ok I r1 (.bl i) ok.b fun tk => ⟨.bl _, H, I.tok _, rfl, h⟩
      | str i => exact isinst_ok I r1 (.str i) ok.s fun tk => ⟨.bl _, H, I.tok _, rfl, h⟩
      | non => exact isinst_ok I r1 .non ok.n fun tk => ⟨.bl _, H, I.tok _, rfl, h⟩
      | ref a =>
        rcases h with ⟨ys, e1, h⟩ | ⟨ys, e1, h⟩
        · exact isinst_ok I r1 (.tup e1) ok.t fun tk => ⟨.bl _, H, I.tok _, rfl, h⟩
        · exact isinst_ok I r1 (.lst e1) ok.l fun tk => ⟨.bl _, H, I.tok _, rfl, h⟩
      | _ => exact h.elim
def tIsi (z : Isi) (te : TE) : TE := fun σ H Q => te σ H fun x H1 => rIsi z x H1 Q
theorem qisi (ok : IsiOk X.K (.type T) z) (hm : X.mg "isinstance" = none) (hm' : X.mg cls = none) (he : PE X e te) (hv : bootBuiltins cls = some (.type T) := by decide +kernel) (hg : Gl X "isinstance" := by rfl) (hg' : Gl X cls := by rfl)
    (hn : cls ≠ "__name__" := by decide) (hd : (cls == ("__debug__" : Str)) = false := by decide)
    (h1 : starEach (e :: [.Name cls p']) X.env = (false, eval e X.env) :: starEach [.Name cls p'] X.env := by rfl) (h2 : (backTo pos (starEach [.Name cls p'] X.env)).any (·.1) = false := by rfl) (h3 : starEach (Expr.Name cls p' :: []) X.env = (false, eval (.Name cls p') X.env) :: starEach [] X.env := by rfl) :
    PE X (.Call (.Name "isinstance" p) [e, .Name cls p'] [] pos) (tIsi z te) :=
  (pe_callB (cr_isi ok) hg hm (by decide +kernel) (pa_cons he (pa_cons (pe_bltn (v := .ty T) hg' hm' hv rfl hn hd) pa_nil h3) h1) (by decide) (by decide) h1 h2).imp fun σ H Q h => by
    have q : (fun (x : V) (H1 : Hp) => ∃ x', [x, V.ty T] = [x', V.ty T] ∧ rIsi z x' H1 Q) = fun x H1 => rIsi z x H1 Q := by
      funext x H1
      refine propext ⟨fun ⟨x', e, h⟩ => ?_, fun h => ⟨x, rfl, h⟩⟩
      injection e with e1 _
      subst e1
      exact h
    show te σ H fun x H1 => ∃ x', [x, V.ty T] = [x', V.ty T] ∧ rIsi z x' H1 Q
    rw [q]
    exact h
end
theorem Same.tup {K : PySem.W.Frag} {H H' : Hp} {a : Addr} {xs : List V} (e : Same H H') (h : SqT K H a xs) : SqT K H' a xs := by
  rcases h with (h | ⟨o, h⟩) | h
  · exact .inl (.inl (e _ _ h))
  · exact .inl (.inr ⟨o, e _ _ h⟩)
  · exact .inr h
def scalD : V → PyData → Prop
  | .non, .none => True
  | .bl b, .bool c => b = c
  | .int i, .int j => i = j
  | .str x, .str y => x = y
  | _, _ => False
def Dq (H : Hp) : Nat → V → PyData → Prop
  | 0, v, d => scalD v d
  | n + 1, v, d => scalD v d ∨ (∃ a xs ds, v = .ref a ∧ d = .tuple ds ∧ H a = some (.tup xs) ∧ xs.length ≤ 100000 ∧ Paired (Dq H n) xs ds) ∨ ∃ a xs ds, v = .ref a ∧ d = .list ds ∧ H a = some (.lst xs) ∧ xs.length ≤ 100000 ∧ Paired (Dq H n) xs ds
theorem Dq.same {H H' : Hp} (s : Same H H') : ∀ {n : Nat} {v : V} {d : PyData}, Dq H n v d → Dq H' n v d
  | 0, _, _, h => h
  | n + 1, v, d, h => by
    rcases h with h | ⟨a, xs, ds, e1, e2, e3, l, r⟩ | ⟨a, xs, ds, e1, e2, e3, l, r⟩
    · exact .inl h
    · exact .inr (.inl ⟨a, xs, ds, e1, e2, s _ _ e3, l, Paired.mapP r fun _ _ => Dq.same s⟩)
    · exact .inr (.inr ⟨a, xs, ds, e1, e2, s _ _ e3, l, Paired.mapP r fun _ _ => Dq.same s⟩)
theorem Paired.get2 {α β : Type} {R : α → β → Prop} : ∀ {xs : List α} {ys : List β} {i : Nat}, Paired R xs ys → i < xs.length → ∃ x y, xs[i]? = some x ∧ ys[i]? = some y ∧ R x y
  | _, _, _, .nil, h => absurd h (Nat.not_lt_zero _)
  | _, _, 0, .cons r _, _ => ⟨_, _, rfl, rfl, r⟩
  | _, _, i + 1, .cons _ t, h => by
    obtain ⟨x, y, h1, h2, h3⟩ := Paired.get2 (i := i) t (Nat.lt_of_succ_lt_succ h)
    exact ⟨x, y, h1, h2, h3⟩
end L2
set_option Elab.async false
set_option linter.all false
set_option maxRecDepth 100000
set_option maxHeartbeats 4000000
namespace L2
open PySem PySem.Spec PyProof.Rows
section
variable {prog : Program} {w : World}
end
section
variable {X : Cx}
end
end L2
set_option Elab.async false
set_option linter.all false
set_option maxRecDepth 100000
set_option maxHeartbeats 4000000
namespace Tm
open PySem L2
inductive Wd where
  | num (n : Int)
  | key (b e a : Int) (r : Str)
  | gate (row : Int) (w : Wd)
def Tups (H H' : Hp) : Prop := ∀ p xs, H p = some (.tup xs) → H' p = some (.tup xs)
theorem Tups.refl (H : Hp) : Tups H H := fun _ _ h => h
theorem Tups.trans {H H1 H2 : Hp} (a : Tups H H1) (b : Tups H1 H2) : Tups H H2 := fun p xs h => b p xs (a p xs h)
theorem Same.tups {H H' : Hp} (a : Same H H') : Tups H H' := fun p xs h => a _ _ h
theorem On.tups {K : PySem.W.Frag} {R : Addr} {H H' : Hp} (h : RowAt K H R) (o : On K R H H') : Tups H H' := fun p xs e => o.at e (by
  obtain ⟨ys, q⟩ := h.lst
  rintro rfl
  rw [q] at e
  cases e)
theorem Tups.upd {H : Hp} {p : Addr} {o : HO} (h : Soft (H p)) : Tups H (upd H p o) := fun q xs e => by
  rw [upd_ne]
  · exact e
  · rintro rfl
    rw [e] at h
    exact h
def IsW (H : Hp) : Wd → V → Prop
  | .num n, v => v = .int n
  | .key b e a r, v => ∃ p, v = .ref p ∧ H p = some (.tup [.str "key", .int b, .int e, .int a, .str r])
  | .gate row w, v => ∃ p u, v = .ref p ∧ H p = some (.tup [.str "gate", .int row, u]) ∧ IsW H w u
theorem IsW.tups {H H' : Hp} (t : Tups H H') : ∀ {w : Wd} {v : V}, IsW H w v → IsW H' w v
  | .num _, _, h => h
  | .key _ _ _ _, _, ⟨p, e, h⟩ => ⟨p, e, t _ _ h⟩
  | .gate _ w, _, ⟨p, u, e, h, i⟩ => ⟨p, u, e, t _ _ h, i.tups t⟩
def numOk (n : Int) : Prop := -10000 ≤ n ∧ n ≤ 9999
def RightsOk (r : Str) : Prop := r.cps.toList.Sublist [103, 104, 108, 115]
def Wd.plain : Wd → Prop
  | .gate _ _ => False
  | _ => True
def WOk (rows most : Int) : Wd → Prop
  | .num n => numOk n
  | .key b e a r => 0 ≤ b ∧ b < e ∧ e ≤ most ∧ numOk a ∧ RightsOk r
  | .gate row w => 0 ≤ row ∧ row ≤ rows ∧ w.plain ∧ WOk rows most w
theorem join_signs : ∀ (cs : List Nat), (Txt.join (Str.ofString "") (cs.map fun c => (⟨#[c]⟩ : Str))).cps.toList = cs := by
  intro cs
  rw [TL.join_eq]
  have q := TL.tl_join (Str.ofString "") (cs.map fun c => (⟨#[c]⟩ : Str))
  have e : TL.tl (Str.ofString "") = [] := by decide +kernel
  rw [e] at q
  show TL.tl _ = cs
  rw [q]
  rw [List.map_map]
  have f : (TL.tl ∘ fun c => (⟨#[c]⟩ : Str)) = fun c : Nat => [c] := by
    funext c
    rfl
  rw [f]
  clear q e f
  induction cs with
  | nil => rfl
  | cons c cs ih =>
    cases cs with
    | nil => rfl
    | cons d ds =>
      show [c] ++ ([] ++ TL.joinL [] ((d :: ds).map fun c => [c])) = _
      rw [ih]
      rfl
end Tm
set_option Elab.async false
set_option linter.all false
set_option maxRecDepth 100000
set_option maxHeartbeats 4000000
namespace Tm
open PySem L2
theorem iteF' {A B : Prop} {c : Bool} (e : c = false) (h : B) : if c = true then A else B := by
  subst e
  exact iteF h
theorem iteT' {A B : Prop} {c : Bool} (e : c = true) (h : A) : if c = true then A else B := by
  subst e
  exact iteT h
inductive Rw where
  | put (r n : Int)
  | move (r s : Int)
  | add (r s t : Int)
  | take (r s t : Int)
  | less (r s t : Int)
  | same (r s t : Int)
  | is_ (r s : Int)
  | get (r s far : Int)
  | set (s far t : Int)
  | narrow (r s t : Int)
  | fewer (r s : Int) (x : Str)
  | gate (r s row : Int)
  | enter (s : Int)
  | room (r : Int)
  | shut (s : Int)
  | say (s : Int)
  | go (row : Int)
  | if_ (s row : Int)
  | end_
def Rw.vals : Rw → List V
  | .put r n => [.str "put", .int r, .int n]
  | .move r s => [.str "move", .int r, .int s]
  | .add r s t => [.str "add", .int r, .int s, .int t]
  | .take r s t => [.str "take", .int r, .int s, .int t]
  | .less r s t => [.str "less", .int r, .int s, .int t]
  | .same r s t => [.str "same", .int r, .int s, .int t]
  | .is_ r s => [.str "is", .int r, .int s]
  | .get r s far => [.str "get", .int r, .int s, .int far]
  | .set s far t => [.str "set", .int s, .int far, .int t]
  | .narrow r s t => [.str "narrow", .int r, .int s, .int t]
  | .fewer r s x => [.str "fewer", .int r, .int s, .str x]
  | .gate r s row => [.str "gate", .int r, .int s, .int row]
  | .enter s => [.str "enter", .int s]
  | .room r => [.str "room", .int r]
  | .shut s => [.str "shut", .int s]
  | .say s => [.str "say", .int s]
  | .go row => [.str "go", .int row]
  | .if_ s row => [.str "if", .int s, .int row]
  | .end_ => [.str "end"]
def box (r : Int) : Prop := 0 ≤ r ∧ r ≤ 7
def ROk (rows : Int) : Rw → Prop
  | .put r n => box r ∧ numOk n
  | .move r s => box r ∧ box s
  | .add r s t => box r ∧ box s ∧ box t
  | .take r s t => box r ∧ box s ∧ box t
  | .less r s t => box r ∧ box s ∧ box t
  | .same r s t => box r ∧ box s ∧ box t
  | .is_ r s => box r ∧ box s
  | .get r s far => box r ∧ box s ∧ -63 ≤ far ∧ far ≤ 63
  | .set s far t => box s ∧ (-63 ≤ far ∧ far ≤ 63) ∧ box t
  | .narrow r s t => box r ∧ box s ∧ box t
  | .fewer r s x => box r ∧ box s ∧ RightsOk x
  | .gate r s row => box r ∧ box s ∧ 0 ≤ row ∧ row ≤ rows
  | .enter s => box s
  | .room r => box r
  | .shut s => box s
  | .say s => box s
  | .go row => 0 ≤ row ∧ row < rows
  | .if_ s row => box s ∧ 0 ≤ row ∧ row < rows
  | .end_ => True
def IsR (H : Hp) (x : Rw) (v : V) : Prop := ∃ p, v = .ref p ∧ H p = some (.tup x.vals)
theorem IsR.tups {H H' : Hp} {x : Rw} {v : V} (h : IsR H x v) (t : Tups H H') : IsR H' x v := by
  obtain ⟨p, e, h⟩ := h
  exact ⟨p, e, t _ _ h⟩
end Tm
set_option Elab.async false
set_option linter.all false
set_option maxRecDepth 100000
set_option maxHeartbeats 1000000
namespace Tm
open PySem L2
def ring (n : Int) : Int := (n + 10000) % 20000 - 10000
def Wd.kind : Wd → Int
  | .num _ => 0
  | .key _ _ _ _ => 1
  | .gate _ _ => 2
def hasR (r : Str) (c : Nat) : Bool := decide (c ∈ r.cps.toList)
def fewerR (r x : Str) : Str := ⟨(r.cps.toList.filter fun c => decide (c ∈ x.cps.toList)).toArray⟩
theorem str_ext {x y : Str} (h : x.cps.toList = y.cps.toList) : x = y := by
  cases x
  cases y
  congr 1
  exact Array.toList_inj.mp h
end Tm
set_option Elab.async false
set_option linter.all false
set_option maxRecDepth 100000
set_option maxHeartbeats 1000000
namespace L2
open PySem PySem.Spec PyProof.Rows
inductive Ents (w : World) : List DictEntry → List (Key × V) → Prop
  | nil : Ents w [] []
  | cons {x : Str} {t : Tok} {u : Value} {v : V} {es : List DictEntry} {kvs : List (Key × V)} : RelV v u → Ents w es kvs → Ents w (⟨PyData.keyHash w.params x, .str x t, u⟩ :: es) ((.inr x, v) :: kvs)
structure KDict (w : World) (K : PySem.W.Frag) (a : Addr) (kvs : List (Key × V)) : Prop where
  ex : ∃ o es ep, K.lookup a = some o ∧ o.ExactDict ∧ o.data = .dict es ep ∧ Ents w es.toList kvs
  nd : (kvs.map (·.1)).Nodup
  ns : (a == sysModules) = false
theorem Ents.pairs {P : Program} {w : World} : ∀ {es : List DictEntry} {kvs : List (Key × V)}, Ents w es kvs → ∃ vs, KV kvs vs ∧ Pairs (mixKind P w) es vs ∧ (∀ e ∈ es, ∃ k, (mixKind P w).is k e.key = true ∧ e.hash = (mixKind P w).hash k) ∧ vs.map (·.1) = kvs.map (·.1)
  | _, _, .nil => ⟨[], .nil, .nil, fun e he => absurd he (by simp), rfl⟩
  | _, _, .cons (x := x) (t := t) (u := u) r q => by
    obtain ⟨vs, h1, h2, h3, h4⟩ := Ents.pairs (P := P) q
    refine ⟨(.inr x, u) :: vs, .cons ⟨rfl, r⟩ h1, .cons (keyIs_str x t) rfl h2, fun e he => ?_, ?_⟩
    · rcases List.mem_cons.mp he with z | z
      · subst z
        exact ⟨.inr x, keyIs_str x t, rfl⟩
      · exact h3 e z
    · rw [List.map_cons, List.map_cons, h4]
theorem KDict.dict {P : Program} {w : World} {K : PySem.W.Frag} {a : Addr} {kvs : List (Key × V)} (d : KDict w K a kvs) {h : Heap} (k : K.In h) : ∃ vs, KV kvs vs ∧ h.DictOf (mixKind P w) a vs := by
  obtain ⟨o, es, ep, h1, h2, h3, h4⟩ := d.ex
  obtain ⟨vs, r, p, q, e⟩ := h4.pairs (P := P)
  refine ⟨vs, r, o, es, ep, k a o h1, h2, h3, fun e he => q e (by simpa using he), p, ?_⟩
  rw [e]
  exact d.nd
section
variable {X : Cx} {x : Str} {a : Addr} {kvs : List (Key × V)} {i e f : Expr} {ti te tf : TE} {p pos apos : Pos}
end
end L2
set_option Elab.async false
set_option linter.all false
set_option maxRecDepth 100000
set_option maxHeartbeats 1000000
namespace L2
open PySem PySem.Spec PyProof.Rows
section
variable {X : Cx}
end
section
variable {X : Cx} {a b c d : Expr} {ta tb tc td : TE} {pos : Pos}
end
theorem pe_globI {X : Cx} {x : Str} {i : Int} {pos : Pos} (h : ∃ t, X.mg x = some (.int i t)) (hg : Gl X x := by rfl) (hd : (x == ("__debug__" : Str)) = false := by decide) : PE X (.Name x pos) (tC (.int i)) := by
  obtain ⟨t, h⟩ := h
  exact pe_glob hg h ⟨t, rfl⟩ hd
theorem pe_globS {X : Cx} {x y : Str} {pos : Pos} (h : ∃ t, X.mg x = some (.str y t)) (hg : Gl X x := by rfl) (hd : (x == ("__debug__" : Str)) = false := by decide) : PE X (.Name x pos) (tC (.str y)) := by
  obtain ⟨t, h⟩ := h
  exact pe_glob hg h ⟨t, rfl⟩ hd
structure FunD (K : PySem.W.Frag) (x qual : Str) (st : Stmt) (f : Addr) (fd : FuncData) : Prop where
  ex : ∃ (dV oc : Value) (od : Option Addr) (kV doc pm : Value) (an : Option Addr) (cdv ct : Value) (osl : Array (Option Value)),
    fd = PySem.W.fnOf x qual (defArgs st) (defBody st) (defScope st) dV kV doc pm an cdv ct ∧ K.lookup f = some ⟨oc, od, .func fd, osl⟩ ∧ PySem.W.codeIn K cdv qual = true
  kp : PySem.W.keepIn K (.ref f) = true
theorem FunD.ok {P : Program} {w : World} {K : PySem.W.Frag} {mg : Str → Option Value} {base : Heap} {x qual : Str} {st : Stmt} {f : Addr} {fd : FuncData} {N ps : List Str} {k : Nat} {sp : Sp} (F : FunD K x qual st f fd) (S : FnScope N ps (defScope st)) (len : ∀ vs H Q E, sp vs H Q E → vs.length = ps.length)
    (hbody : ∀ (cdv : Value) (A : Around) (outer : List Env) (s : Shared) (H : Hp) (vs : List V) (Q : VK) (E : XK), Room k (A.deeper (envOfC qual (defScope st) s.heap.objs.size f cdv)) → sp vs H Q E →
      ∃ t, PSs (cxOf CX0 P w K mg base N qual (defScope st) f cdv A outer s H E).nox (defBody st) t ∧ t { nx := fun _ H' => Q .non H', rt := Q } (start N vs) H) : FnOk P w K mg base CX0 (k + 1) f fd ps sp := by
  obtain ⟨dV, oc, od, kV, doc, pm, an, cdv, ct, osl, rfl, lk, hcd⟩ := F.ex
  refine fn_of lk hcd S len fun A outer s H vs Q E hr hsp => ?_
  obtain ⟨t, h, q⟩ := hbody cdv A outer s H vs Q E hr hsp
  exact ⟨t, h.nox, q⟩
end L2
set_option Elab.async false
set_option linter.all false
set_option maxRecDepth 100000
set_option maxHeartbeats 1000000
set_option pp.maxSteps 600
set_option pp.deepTerms false
namespace Tm
open PySem L2
structure Gw (mg : Str → Option Value) : Prop where
  LEAST : ∃ t, mg "LEAST" = some (.int (-10000) t)
  MOST : ∃ t, mg "MOST" = some (.int 9999 t)
  RIGHTS : ∃ t, mg "RIGHTS" = some (.str "ghls" t)
def Typed (H : Hp) : V → Prop
  | .int _ => True
  | .bl _ => True
  | .str _ => True
  | .non => True
  | .ref a => (∃ xs, H a = some (.tup xs)) ∨ ∃ xs, H a = some (.lst xs)
  | _ => False
def wholeB (v : V) (l m : Int) : Bool := match v with
  | .int i => decide (l ≤ i) && decide (i ≤ m)
  | _ => false
def spWhole : Sp := fun vs H Q _ => ∃ (v : V) (l m : Int), vs = [v, .int l, .int m] ∧ Typed H v ∧ Q (.bl (wholeB v l m)) H
def spNumber : Sp := fun vs H Q _ => ∃ (v : V), vs = [v] ∧ Typed H v ∧ Q (.bl (wholeB v (-10000) 9999)) H
def spCommon : Sp := fun vs H Q _ => ∃ (r x : Str), vs = [.str r, .str x] ∧ r.length ≤ 1000 ∧ ∀ H', Same H H' → Q (.str (fewerR r x)) H'
def rightsB : V → Bool
  | .str z => decide (z = fewerR "ghls" z)
  | _ => false
def spIsRights : Sp := fun vs H Q _ => ∃ (v : V), vs = [v] ∧ Typed H v ∧ ∀ H', Same H H' → Q (.bl (rightsB v)) H'
def spKindOf : Sp := fun vs H Q _ => ∃ (v : V) (x : Wd), vs = [v] ∧ IsW H x v ∧ Q (.str (match x with | .num _ => "number" | .key _ _ _ _ => "key" | .gate _ _ => "gate")) H
abbrev s_is_whole : Stmt := top 11
abbrev N_is_whole : List Str := ["value", "least", "most"]
abbrev P_is_whole : List Str := ["value", "least", "most"]
theorem sc_is_whole : FnScope N_is_whole P_is_whole (defScope s_is_whole) := ⟨rfl, rfl, rfl, by decide +kernel, rfl, by decide +kernel, by decide +kernel⟩
abbrev s_is_number : Stmt := top 12
abbrev N_is_number : List Str := ["value"]
abbrev P_is_number : List Str := ["value"]
theorem sc_is_number : FnScope N_is_number P_is_number (defScope s_is_number) := ⟨rfl, rfl, rfl, by decide +kernel, rfl, by decide +kernel, by decide +kernel⟩
abbrev s_common_rights : Stmt := top 13
abbrev N_common_rights : List Str := ["rights", "others", "letter"]
abbrev P_common_rights : List Str := ["rights", "others"]
theorem sc_common_rights : FnScope N_common_rights P_common_rights (defScope s_common_rights) := ⟨rfl, rfl, rfl, by decide +kernel, rfl, by decide +kernel, by decide +kernel⟩
abbrev s_is_rights : Stmt := top 14
abbrev N_is_rights : List Str := ["value"]
abbrev P_is_rights : List Str := ["value"]
theorem sc_is_rights : FnScope N_is_rights P_is_rights (defScope s_is_rights) := ⟨rfl, rfl, rfl, by decide +kernel, rfl, by decide +kernel, by decide +kernel⟩
theorem IsW.typed {H : Hp} {x : Wd} {v : V} (h : IsW H x v) : Typed H v := by
  cases x with
  | num n => cases (show v = V.int n from h); trivial
  | key b e a r => obtain ⟨p, rfl, hp⟩ := h; exact .inl ⟨_, hp⟩
  | gate g y => obtain ⟨p, u, rfl, hp, _⟩ := h; exact .inl ⟨_, hp⟩
theorem fewer_self {r : Str} (h : RightsOk r) : fewerR "ghls" r = r := by
  apply str_ext
  have e : (Str.ofString "ghls").cps.toList = [103, 104, 108, 115] := by decide +kernel
  show List.filter (fun c => decide (c ∈ r.cps.toList)) (Str.ofString "ghls").cps.toList = r.cps.toList
  rw [e]
  unfold RightsOk at h
  generalize r.cps.toList = l at h
  have key : ∀ (m : List Nat), m.Nodup → ∀ l : List Nat, l.Sublist m → m.filter (fun c => decide (c ∈ l)) = l := by
    intro m hm l hl
    induction hl with
    | slnil => rfl
    | cons a hs ih =>
      rename_i l1 l2
      have ha := (List.nodup_cons.mp hm).1
      rw [List.filter_cons, if_neg (by simpa using fun z => ha (hs.subset z))]
      exact ih (List.nodup_cons.mp hm).2
    | cons_cons a hs ih =>
      rename_i l1 l2
      have ha := (List.nodup_cons.mp hm).1
      rw [List.filter_cons, if_pos (by simp)]
      congr 1
      rw [← ih (List.nodup_cons.mp hm).2]
      refine List.filter_congr fun c hc => ?_
      have hne : c ≠ a := fun z => ha (z ▸ hc)
      have hiff : (c ∈ a :: l1.filter fun c => true) ↔ c ∈ l1 := by simp [hne]
      rw [ih (List.nodup_cons.mp hm).2]
      simp [hne]
  exact key _ (by decide) l h
section
variable {P : Program} {w : World} {K : PySem.W.Frag} {mg : Str → Option Value} {base : Heap}
theorem ok_is_whole {f : Addr} {fd : FuncData} (F : Fun K "is_whole" "is_whole" s_is_whole f fd) (T : Tx mg) : FnOk P w K mg base CX0 1 f fd P_is_whole spWhole := by
  have sc := sc_is_whole
  refine F.ok sc (fun vs H Q E h => ?_) (fun cdv A outer s H vs Q E hr h => ?_)
  · obtain ⟨v, l, m, rfl, _⟩ := h
    rfl
  obtain ⟨v, l, m, rfl, hv, k⟩ := h
  refine ⟨_, ((pss_cons (ps_if (PW.pt (pw_or (pt_not (pt_val (qisi (isi_int _) T.isinstance T.int (qv 0)))) (pw_or1 (pt_val (qisi (isi_bool _) T.isinstance T.bool (qv 0))))))
  (pss_one (ps_ret pe_bl))
  pss_nil)
  (pss_one (ps_ret (pe_chain oq_le oq_le (qv 1) (qv 0) (qv 2))))) : PSs _ (_ :: _) _), ?_⟩
  cases v with
  | int i =>
    refine ⟨_, rfl, _, rfl, _, rfl, ?_⟩
    refine ite2 (fun c => ?_) (fun c => ?_)
    · have e : wholeB (.int i) l m = decide (i ≤ m) := by
        show (decide (l ≤ i) && decide (i ≤ m)) = _
        rw [c, Bool.true_and]
      rw [e] at k
      exact k
    · have e : wholeB (.int i) l m = false := by
        show (decide (l ≤ i) && decide (i ≤ m)) = _
        rw [Bool.eq_false_iff.mpr c, Bool.false_and]
      rw [e] at k
      exact k
  | bl b => exact ⟨_, rfl, _, rfl, k⟩
  | str z => exact ⟨_, rfl, k⟩
  | non => exact ⟨_, rfl, k⟩
  | ref a =>
    rcases hv with ⟨xs, hv⟩ | ⟨xs, hv⟩
    · exact .inl ⟨_, hv, _, rfl, k⟩
    · exact .inr ⟨_, hv, _, rfl, k⟩
  | _ => exact hv.elim
theorem ok_is_number {f : Addr} {fd : FuncData} (F : Fun K "is_number" "is_number" s_is_number f fd) (G : Gw mg) (D_is_whole : Df P w K mg base 1 "is_whole" P_is_whole [] spWhole) : FnOk P w K mg base CX0 2 f fd P_is_number spNumber := by
  have sc := sc_is_number
  refine F.ok sc (fun vs H Q E h => ?_) (fun cdv A outer s H vs Q E hr h => ?_)
  · obtain ⟨v, rfl, _⟩ := h
    rfl
  obtain ⟨v, rfl, hv, k⟩ := h
  refine ⟨_, ((pss_one (ps_ret (qcall D_is_whole (by first | exact hr | exact hr.mono (by omega)) (pa_cons (qv 0) (pa_cons (pe_globI G.LEAST) (pa_cons (pe_globI G.MOST) pa_nil)))))) : PSs _ [_] _), ?_⟩
  exact ⟨v, -10000, 9999, rfl, hv, k⟩
theorem ok_common {f : Addr} {fd : FuncData} (F : Fun K "common_rights" "common_rights" s_common_rights f fd) : FnOk P w K mg base CX0 1 f fd P_common_rights spCommon := by
  have sc := sc_common_rights
  refine F.ok sc (fun vs H Q E h => ?_) (fun cdv A outer s H vs Q E hr h => ?_)
  · obtain ⟨r, x, rfl, _⟩ := h
    rfl
  obtain ⟨y, z, rfl, ly, k⟩ := h
  have ly' : y.cps.size ≤ 1000 := ly
  refine ⟨_, ((pss_one (ps_ret (pe_join pe_str (pe_lc (own := [("letter", 2)]) (g := gName 2) (by rfl) sc.nd (pi_str (qv 0)) (blkOk_by (own := [("letter", 2)]) (N := N_common_rights) (sc := defScope s_common_rights) (by decide +kernel)) (fun _ _ _ _ _ => (pg_name (i := 2) sc.nd rfl (by first | exact Or.inl rfl | exact Or.inr rfl))) (fun _ _ _ _ _ => (pts_one (pt_cmpR op_in_sign (qv 2) (qv 1) (by rfl)))) (fun _ _ _ _ _ => (qv 2)))))) : PSs _ [_] _), ?_⟩
  refine ⟨⟨_, rfl⟩, _, rfl, fun D hD => ?_⟩
  refine lc_by (n := y.cps.size) (fun i H2 => Same H H2 ∧ H2 D = some (.lst (((y.cps.toList.take i).filter fun c => decide (c ∈ z.cps.toList)).map fun c => V.str ⟨#[c]⟩))) ⟨same_new hD _, upd_same⟩ (fun i H2 hi _ => hi) (fun H2 _ => Nat.le_refl _) ?_ ?_
  · rintro i H2 x H2' hi ⟨o2, hc⟩ ⟨rfl, c, hx, rfl⟩
    refine ⟨rfl, ?_⟩
    refine ⟨c, z, rfl, rfl, _, rfl, ?_⟩
    have hx' : y.cps.toList[i]? = some c := by simpa using hx
    have ht : y.cps.toList.take (i + 1) = y.cps.toList.take i ++ [c] := by
      rw [List.take_succ, hx']
      rfl
    have hl : ((y.cps.toList.take i).filter fun c => decide (c ∈ z.cps.toList)).length ≤ 1000 := by
      refine Nat.le_trans (List.length_filter_le _ _) (Nat.le_trans (List.length_take_le' _ _) ?_)
      rw [Array.length_toList]
      exact ly'
    refine ite2 (fun q => ?_) (fun q => ?_)
    · refine ⟨_, hc, small1000 (by rw [List.length_map]; omega), fun b' o' e' => ?_, ?_⟩
      · rw [upd_ne (ne_of_none e' hD)]
        exact o2 _ _ e'
      · rw [upd_same, ht, List.filter_append, List.map_append]
        congr 3
        show _ = (List.filter _ [c]).map _
        rw [List.filter_cons, if_pos q]
        rfl
    · refine ⟨o2, ?_⟩
      rw [hc, ht, List.filter_append]
      congr 3
      rw [List.filter_cons, if_neg q]
      simp
  · rintro H2 ⟨o2, hc⟩
    have hall : y.cps.toList.take y.cps.size = y.cps.toList := by rw [← Array.length_toList, List.take_length]
    rw [hall] at hc
    have hl : (y.cps.toList.filter fun c => decide (c ∈ z.cps.toList)).length ≤ 1000 := by
      refine Nat.le_trans (List.length_filter_le _ _) ?_
      rw [Array.length_toList]
      exact ly'
    have hj := join_signs (y.cps.toList.filter fun c => decide (c ∈ z.cps.toList))
    generalize hcs : (y.cps.toList.filter fun c => decide (c ∈ z.cps.toList)) = cs at hc hl hj
    refine ⟨_, D, cs.map fun c => (⟨#[c]⟩ : Str), rfl, rfl, .inl (SqL.of (by rw [List.map_map]; exact hc)), ?_, ?_⟩
    · have e : ((cs.map fun c => (⟨#[c]⟩ : Str)).map (·.length)).sum = cs.length := by
        clear hc hl hcs hj
        induction cs with
        | nil => rfl
        | cons c cs ih =>
          rw [List.map_cons, List.map_cons, List.sum_cons, ih, List.length_cons]
          show 1 + cs.length = cs.length + 1
          omega
      rw [e, List.length_map, show (Str.ofString "").length = 0 from rfl, Nat.mul_zero]
      omega
    · have ej : Txt.join (Str.ofString "") (cs.map fun c => (⟨#[c]⟩ : Str)) = fewerR y z := by
        apply str_ext
        rw [hj, ← hcs]
        rfl
      rw [ej]
      exact k H2 o2
theorem ok_is_rights {f : Addr} {fd : FuncData} (F : Fun K "is_rights" "is_rights" s_is_rights f fd) (T : Tx mg) (G : Gw mg) (D_common_rights : Df P w K mg base 1 "common_rights" P_common_rights [] spCommon) : FnOk P w K mg base CX0 2 f fd P_is_rights spIsRights := by
  have sc := sc_is_rights
  refine F.ok sc (fun vs H Q E h => ?_) (fun cdv A outer s H vs Q E hr h => ?_)
  · obtain ⟨v, rfl, _⟩ := h
    rfl
  obtain ⟨v, rfl, hv, k⟩ := h
  have hu64 := hr.units
  refine ⟨_, ((pss_one (ps_ret (pe_and (qisi (isi_str _) T.isinstance T.str (qv 0)) (pe_one (pe_cmpR (oq_eq K hu64) (qv 0) (qcall D_common_rights (by first | exact hr | exact hr.mono (by omega)) (pa_cons (pe_globS G.RIGHTS) (pa_cons (qv 0) pa_nil))) (nomark _)))))) : PSs _ [_] _), ?_⟩
  cases v with
  | str z =>
    refine ⟨_, rfl, ?_⟩
    refine ⟨Str.ofString "ghls", z, rfl, (by decide), fun H1 s1 => ⟨rfl, ?_⟩⟩
    have e : rightsB (.str z) = decide (V.str z = V.str (fewerR (Str.ofString "ghls") z)) := by
      show decide (z = fewerR "ghls" z) = _
      exact decide_eq_decide.mpr ⟨fun q => congrArg V.str q, fun q => V.str.inj q⟩
    have q := k H1 s1
    rw [e] at q
    exact q
  | int i => exact ⟨_, rfl, k H (Same.refl H)⟩
  | bl b => exact ⟨_, rfl, k H (Same.refl H)⟩
  | non => exact ⟨_, rfl, k H (Same.refl H)⟩
  | ref a =>
    rcases hv with ⟨xs, hv⟩ | ⟨xs, hv⟩
    · exact .inl ⟨_, hv, _, rfl, k H (Same.refl H)⟩
    · exact .inr ⟨_, hv, _, rfl, k H (Same.refl H)⟩
  | _ => exact hv.elim
end
end Tm
set_option Elab.async false
set_option linter.all false
set_option maxRecDepth 100000
set_option maxHeartbeats 1000000
set_option pp.maxSteps 600
set_option pp.deepTerms false
namespace Tm
open PySem L2
def spTagged : Sp := fun vs H Q _ => ∃ (v : V) (x : Wd) (tag : Str) (n : Int) (res : Bool), vs = [v, .str tag, .int n] ∧ IsW H x v ∧ ((tag = "key" ∧ n = 5 ∧ res = decide (x.kind = 1)) ∨ (tag = "gate" ∧ n = 3 ∧ res = decide (x.kind = 2))) ∧ Q (.bl res) H
def spIsKey : Sp := fun vs H Q _ => ∃ (v : V) (x : Wd) (rows most : Int), vs = [v, .int most] ∧ IsW H x v ∧ WOk rows most x ∧ ∀ H', Same H H' → Q (.bl (decide (x.kind = 1))) H'
def spIsGate : Sp := fun vs H Q _ => ∃ (v : V) (x : Wd) (rows most : Int), vs = [v, .int rows, .int most] ∧ IsW H x v ∧ WOk rows most x ∧ ∀ H', Same H H' → Q (.bl (decide (x.kind = 2))) H'
def spIsWord : Sp := fun vs H Q _ => ∃ (v : V) (x : Wd) (rows most : Int), vs = [v, .int rows, .int most] ∧ IsW H x v ∧ WOk rows most x ∧ ∀ H', Same H H' → Q (.bl true) H'
abbrev s_kind_of : Stmt := top 19
abbrev N_kind_of : List Str := ["word"]
abbrev P_kind_of : List Str := ["word"]
theorem sc_kind_of : FnScope N_kind_of P_kind_of (defScope s_kind_of) := ⟨rfl, rfl, rfl, by decide +kernel, rfl, by decide +kernel, by decide +kernel⟩
abbrev s_is_tagged : Stmt := top 15
abbrev N_is_tagged : List Str := ["value", "tag", "size"]
abbrev P_is_tagged : List Str := ["value", "tag", "size"]
theorem sc_is_tagged : FnScope N_is_tagged P_is_tagged (defScope s_is_tagged) := ⟨rfl, rfl, rfl, by decide +kernel, rfl, by decide +kernel, by decide +kernel⟩
abbrev s_is_key : Stmt := top 16
abbrev N_is_key : List Str := ["value", "cells", "begin", "end", "at", "rights"]
abbrev P_is_key : List Str := ["value", "cells"]
theorem sc_is_key : FnScope N_is_key P_is_key (defScope s_is_key) := ⟨rfl, rfl, rfl, by decide +kernel, rfl, by decide +kernel, by decide +kernel⟩
abbrev s_is_gate : Stmt := top 17
abbrev N_is_gate : List Str := ["value", "rows", "cells", "row", "word"]
abbrev P_is_gate : List Str := ["value", "rows", "cells"]
theorem sc_is_gate : FnScope N_is_gate P_is_gate (defScope s_is_gate) := ⟨rfl, rfl, rfl, by decide +kernel, rfl, by decide +kernel, by decide +kernel⟩
abbrev s_is_word : Stmt := top 18
abbrev N_is_word : List Str := ["value", "rows", "cells"]
abbrev P_is_word : List Str := ["value", "rows", "cells"]
theorem sc_is_word : FnScope N_is_word P_is_word (defScope s_is_word) := ⟨rfl, rfl, rfl, by decide +kernel, rfl, by decide +kernel, by decide +kernel⟩
theorem kkB : decide (V.str "key" = V.str "key") = true := by decide +kernel
theorem gg : decide (V.str "gate" = V.str "gate") = true := by decide +kernel
section
variable {P : Program} {w : World} {K : PySem.W.Frag} {mg : Str → Option Value} {base : Heap}
theorem ok_kind_of {f : Addr} {fd : FuncData} (F : Fun K "kind_of" "kind_of" s_kind_of f fd) (T : Tx mg) : FnOk P w K mg base CX0 1 f fd P_kind_of spKindOf := by
  have sc := sc_kind_of
  refine F.ok sc (fun vs H Q E h => ?_) (fun cdv A outer s H vs Q E hr h => ?_)
  · obtain ⟨v, x, rfl, _⟩ := h
    rfl
  obtain ⟨v, x, rfl, ix, k⟩ := h
  have hu := hu_of hr
  refine ⟨_, ((pss_one (ps_ret (pe_ifExp (pt_val (qisi (isi_int _) T.isinstance T.int (qv 0))) pe_str (pe_ix (iq K hu) (qv 0) pe_int (fun _ _ => rfl))))) : PSs _ [_] _), ?_⟩
  cases x with
  | num n =>
    cases (show v = V.int n from ix)
    exact ⟨_, rfl, k⟩
  | key b e a r =>
    obtain ⟨p, rfl, hp⟩ := ix
    exact .inl ⟨_, hp, _, rfl, .inr (.inl ⟨_, _, SqT.of hp, rfl, k⟩)⟩
  | gate g y =>
    obtain ⟨p, u, rfl, hp, iu⟩ := ix
    exact .inl ⟨_, hp, _, rfl, .inr (.inl ⟨_, _, SqT.of hp, rfl, k⟩)⟩
theorem ok_is_tagged {f : Addr} {fd : FuncData} (F : Fun K "is_tagged" "is_tagged" s_is_tagged f fd) (T : Tx mg) : FnOk P w K mg base CX0 1 f fd P_is_tagged spTagged := by
  have sc := sc_is_tagged
  refine F.ok sc (fun vs H Q E h => ?_) (fun cdv A outer s H vs Q E hr h => ?_)
  · obtain ⟨v, x, tag, n, res, rfl, _⟩ := h
    rfl
  obtain ⟨v, x, tag, n, res, rfl, ix, hc, k⟩ := h
  have hu := hu_of hr
  have hu64 := hr.units
  refine ⟨_, ((pss_one (ps_ret (pe_and (qisi (isi_tuple _) T.isinstance T.tuple (qv 0)) (pe_and (pe_cmpR (oq_eq K hu64) (pe_callB (cq_len K) (by rfl) T.len (by decide +kernel) (pa_cons (qv 0) pa_nil)) (qv 2) (nomark _)) (pe_one (pe_cmpR (oq_eq K hu64) (pe_ix (iq K hu) (qv 0) pe_int (fun _ _ => rfl)) (qv 1) (nomark _))))))) : PSs _ [_] _), ?_⟩
  cases x with
  | num z =>
    cases (show v = V.int z from ix)
    have e : res = false := by
      rcases hc with ⟨_, _, e⟩ | ⟨_, _, e⟩ <;> (rw [e]; rfl)
    subst e
    exact ⟨_, rfl, k⟩
  | key b e a r =>
    obtain ⟨p, rfl, hp⟩ := ix
    refine .inl ⟨_, hp, _, rfl, ?_⟩
    rcases hc with ⟨rfl, rfl, er⟩ | ⟨rfl, rfl, er⟩
    · refine .inr (.inl ⟨_, SqT.of hp, rfl, _, rfl, ?_⟩)
      refine .inr (.inl ⟨_, _, SqT.of hp, rfl, rfl, ?_⟩)
      have z : res = decide (V.str (Str.ofString "key") = V.str (Str.ofString "key")) := by rw [er, kkB]; rfl
      rw [z] at k
      exact k
    · refine .inr (.inl ⟨_, SqT.of hp, rfl, _, rfl, ?_⟩)
      have z : res = false := by rw [er]; rfl
      rw [z] at k
      exact k
  | gate g y =>
    obtain ⟨p, u, rfl, hp, iu⟩ := ix
    refine .inl ⟨_, hp, _, rfl, ?_⟩
    rcases hc with ⟨rfl, rfl, er⟩ | ⟨rfl, rfl, er⟩
    · refine .inr (.inl ⟨_, SqT.of hp, rfl, _, rfl, ?_⟩)
      have z : res = false := by rw [er]; rfl
      rw [z] at k
      exact k
    · refine .inr (.inl ⟨_, SqT.of hp, rfl, _, rfl, ?_⟩)
      refine .inr (.inl ⟨_, _, SqT.of hp, rfl, rfl, ?_⟩)
      have z : res = decide (V.str (Str.ofString "gate") = V.str (Str.ofString "gate")) := by rw [er, gg]; rfl
      rw [z] at k
      exact k
theorem ok_is_key {f : Addr} {fd : FuncData} (F : FunD K "is_key" "is_key" s_is_key f fd) (T : Tx mg) (D_is_tagged : Df P w K mg base 1 "is_tagged" P_is_tagged [] spTagged) (D_is_whole : Df P w K mg base 1 "is_whole" P_is_whole [] spWhole)
    (D_is_number : Df P w K mg base 2 "is_number" P_is_number [] spNumber) (D_is_rights : Df P w K mg base 2 "is_rights" P_is_rights [] spIsRights) : FnOk P w K mg base CX0 3 f fd P_is_key spIsKey := by
  have sc := sc_is_key
  refine F.ok sc (fun vs H Q E h => ?_) (fun cdv A outer s H vs Q E hr h => ?_)
  · obtain ⟨v, x, rows, most, rfl, _⟩ := h
    rfl
  obtain ⟨v, x, rows, most, rfl, ix, ok, k⟩ := h
  have hu := hu_of hr
  have hu64 := hr.units
  refine ⟨_, ((pss_cons (ps_if (pt_not (pt_val (qcall D_is_tagged (by first | exact hr | exact hr.mono (by omega)) (pa_cons (qv 0) (pa_cons pe_str (pa_cons pe_int pa_nil))))))
  (pss_one (ps_ret pe_bl))
  pss_nil)
  (pss_cons (ps_asg (pe_slice (sq_tup K) (qv 0) (po_some pe_int) po_none) (pg_tup (by rfl) (pgs_cons (pg_name (i := 2) sc.nd rfl (by first | exact Or.inl rfl | exact Or.inr rfl)) (pgs_cons (pg_name (i := 3) sc.nd rfl (by first | exact Or.inl rfl | exact Or.inr rfl)) (pgs_cons (pg_name (i := 4) sc.nd rfl (by first | exact Or.inl rfl | exact Or.inr rfl)) (pgs_cons (pg_name (i := 5) sc.nd rfl (by first | exact Or.inl rfl | exact Or.inr rfl)) pgs_nil))))))
  (pss_cons (ps_if (PW.pt (pw_or (pt_not (pt_val (qcall D_is_whole (by first | exact hr | exact hr.mono (by omega)) (pa_cons (qv 2) (pa_cons pe_int (pa_cons (pe_op oq_sub (qv 1) pe_int) pa_nil)))))) (pw_or1 (pt_not (pt_val (qcall D_is_whole (by first | exact hr | exact hr.mono (by omega)) (pa_cons (qv 3) (pa_cons (pe_op (oq_add K) (qv 2) pe_int) (pa_cons (qv 1) pa_nil)))))))))
  (pss_one (ps_ret pe_bl))
  pss_nil)
  (pss_one (ps_ret (pe_and (qcall D_is_number (by first | exact hr | exact hr.mono (by omega)) (pa_cons (qv 4) pa_nil)) (pe_one (qcall D_is_rights (by first | exact hr | exact hr.mono (by omega)) (pa_cons (qv 5) pa_nil))))))))) : PSs _ (_ :: _) _), ?_⟩
  refine ⟨v, x, Str.ofString "key", 5, _, rfl, ix, .inl ⟨rfl, rfl, rfl⟩, _, rfl, ?_⟩
  cases x with
  | num z => exact k H (Same.refl H)
  | gate g y => exact k H (Same.refl H)
  | key b e a r =>
    obtain ⟨p, rfl, hp⟩ := ix
    obtain ⟨b0, b1, e1, ⟨a0, a1⟩, rr⟩ := ok
    refine ⟨_, rfl, p, _, rfl, SqT.of hp, (fun q => absurd q.1 (by show ¬ (1 = 0); decide)), fun s1 hs1 => ?_⟩
    have S1 := same_new hs1 (.tup (cutV [V.str "key", .int b, .int e, .int a, .str r] (some 1) none))
    have g1 : upd H s1 (.tup (cutV [V.str "key", .int b, .int e, .int a, .str r] (some 1) none)) s1 = some (.tup [.int b, .int e, .int a, .str r]) := upd_same
    generalize upd H s1 (.tup (cutV [V.str "key", .int b, .int e, .int a, .str r] (some 1) none)) = H1 at S1 g1
    refine ⟨s1, _, rfl, SqT.of g1, rfl, _, _, rfl, _, _, rfl, _, _, rfl, _, _, rfl, rfl, ?_⟩
    have q1 : wholeB (.int b) 0 (most - 1) = true := by
      show (decide (0 ≤ b) && decide (b ≤ most - 1)) = true
      rw [decide_eq_true b0, decide_eq_true (show b ≤ most - 1 by omega)]
      rfl
    have q2 : wholeB (.int e) (b + 1) most = true := by
      show (decide (b + 1 ≤ e) && decide (e ≤ most)) = true
      rw [decide_eq_true (show b + 1 ≤ e by omega), decide_eq_true e1]
      rfl
    have q3 : wholeB (.int a) (-10000) 9999 = true := by
      show (decide (-10000 ≤ a) && decide (a ≤ 9999)) = true
      rw [decide_eq_true a0, decide_eq_true a1]
      rfl
    have q4 : rightsB (.str r) = true := decide_eq_true (fewer_self rr).symm
    refine ⟨_, 0, most - 1, rfl, trivial, _, rfl, ?_⟩
    rw [q1]
    refine ⟨_, b + 1, most, rfl, trivial, _, rfl, ?_⟩
    rw [q2]
    refine ⟨_, rfl, trivial, _, rfl, ?_⟩
    rw [q3]
    refine ⟨_, rfl, trivial, fun H2 s2 => ?_⟩
    rw [q4]
    exact k H2 (S1.trans s2)
theorem ok_is_gate {f : Addr} {fd : FuncData} (F : FunD K "is_gate" "is_gate" s_is_gate f fd) (T : Tx mg) (D_is_tagged : Df P w K mg base 1 "is_tagged" P_is_tagged [] spTagged) (D_is_whole : Df P w K mg base 1 "is_whole" P_is_whole [] spWhole)
    (D_is_number : Df P w K mg base 2 "is_number" P_is_number [] spNumber) (D_is_key : Df P w K mg base 3 "is_key" P_is_key [] spIsKey) : FnOk P w K mg base CX0 4 f fd P_is_gate spIsGate := by
  have sc := sc_is_gate
  refine F.ok sc (fun vs H Q E h => ?_) (fun cdv A outer s H vs Q E hr h => ?_)
  · obtain ⟨v, x, rows, most, rfl, _⟩ := h
    rfl
  obtain ⟨v, x, rows, most, rfl, ix, ok, k⟩ := h
  have hu := hu_of hr
  have hu64 := hr.units
  refine ⟨_, ((pss_cons (ps_if (pt_not (pt_val (qcall D_is_tagged (by first | exact hr | exact hr.mono (by omega)) (pa_cons (qv 0) (pa_cons pe_str (pa_cons pe_int pa_nil))))))
  (pss_one (ps_ret pe_bl))
  pss_nil)
  (pss_cons (ps_asg (pe_slice (sq_tup K) (qv 0) (po_some pe_int) po_none) (pg_tup (by rfl) (pgs_cons (pg_name (i := 3) sc.nd rfl (by first | exact Or.inl rfl | exact Or.inr rfl)) (pgs_cons (pg_name (i := 4) sc.nd rfl (by first | exact Or.inl rfl | exact Or.inr rfl)) pgs_nil))))
  (pss_one (ps_ret (pe_and (qcall D_is_whole (by first | exact hr | exact hr.mono (by omega)) (pa_cons (qv 3) (pa_cons pe_int (pa_cons (qv 1) pa_nil)))) (pe_one (pe_or (qcall D_is_number (by first | exact hr | exact hr.mono (by omega)) (pa_cons (qv 4) pa_nil)) (pe_one (qcall D_is_key (by first | exact hr | exact hr.mono (by omega)) (pa_cons (qv 4) (pa_cons (qv 2) pa_nil))))))))))) : PSs _ (_ :: _) _), ?_⟩
  refine ⟨v, x, Str.ofString "gate", 3, _, rfl, ix, .inr ⟨rfl, rfl, rfl⟩, _, rfl, ?_⟩
  cases x with
  | num z => exact k H (Same.refl H)
  | key b e a r => exact k H (Same.refl H)
  | gate g y =>
    obtain ⟨p, u, rfl, hp, iu⟩ := ix
    obtain ⟨g0, g1, py, oky⟩ := ok
    refine ⟨_, rfl, p, _, rfl, SqT.of hp, (fun q => absurd q.1 (by show ¬ (1 = 0); decide)), fun s1 hs1 => ?_⟩
    have S1 := same_new hs1 (.tup (cutV [V.str "gate", .int g, u] (some 1) none))
    have e1 : upd H s1 (.tup (cutV [V.str "gate", .int g, u] (some 1) none)) s1 = some (.tup [.int g, u]) := upd_same
    generalize upd H s1 (.tup (cutV [V.str "gate", .int g, u] (some 1) none)) = H1 at S1 e1
    refine ⟨s1, _, rfl, SqT.of e1, rfl, _, _, rfl, _, _, rfl, rfl, ?_⟩
    have q1 : wholeB (.int g) 0 rows = true := by
      show (decide (0 ≤ g) && decide (g ≤ rows)) = true
      rw [decide_eq_true g0, decide_eq_true g1]
      rfl
    refine ⟨_, 0, rows, rfl, trivial, _, rfl, ?_⟩
    rw [q1]
    have iu1 := iu.tups (Same.tups S1)
    refine ⟨u, rfl, iu1.typed, _, rfl, ?_⟩
    cases y with
    | gate _ _ => exact py.elim
    | num z =>
      cases (show u = V.int z from iu)
      have q2 : wholeB (.int z) (-10000) 9999 = true := by
        show (decide (-10000 ≤ z) && decide (z ≤ 9999)) = true
        rw [decide_eq_true oky.1, decide_eq_true oky.2]
        rfl
      rw [q2]
      exact k H1 S1
    | key b e a r =>
      have q2 : wholeB u (-10000) 9999 = false := by
        obtain ⟨pu, rfl, _⟩ := iu
        rfl
      rw [q2]
      exact ⟨u, .key b e a r, rows, most, rfl, iu1, oky, fun H2 s2 => k H2 (S1.trans s2)⟩
theorem ok_is_word {f : Addr} {fd : FuncData} (F : FunD K "is_word" "is_word" s_is_word f fd)
    (D_is_number : Df P w K mg base 2 "is_number" P_is_number [] spNumber) (D_is_key : Df P w K mg base 3 "is_key" P_is_key [] spIsKey) (D_is_gate : Df P w K mg base 4 "is_gate" P_is_gate [] spIsGate) : FnOk P w K mg base CX0 5 f fd P_is_word spIsWord := by
  have sc := sc_is_word
  refine F.ok sc (fun vs H Q E h => ?_) (fun cdv A outer s H vs Q E hr h => ?_)
  · obtain ⟨v, x, rows, most, rfl, _⟩ := h
    rfl
  obtain ⟨v, x, rows, most, rfl, ix, ok, k⟩ := h
  refine ⟨_, ((pss_one (ps_ret (pe_or (qcall D_is_number (by first | exact hr | exact hr.mono (by omega)) (pa_cons (qv 0) pa_nil)) (pe_or (qcall D_is_key (by first | exact hr | exact hr.mono (by omega)) (pa_cons (qv 0) (pa_cons (qv 2) pa_nil))) (pe_one (qcall D_is_gate (by first | exact hr | exact hr.mono (by omega)) (pa_cons (qv 0) (pa_cons (qv 1) (pa_cons (qv 2) pa_nil))))))))) : PSs _ [_] _), ?_⟩
  refine ⟨v, rfl, ix.typed, _, rfl, ?_⟩
  cases x with
  | num z =>
    cases (show v = V.int z from ix)
    have q2 : wholeB (.int z) (-10000) 9999 = true := by
      show (decide (-10000 ≤ z) && decide (z ≤ 9999)) = true
      rw [decide_eq_true ok.1, decide_eq_true ok.2]
      rfl
    rw [q2]
    exact k H (Same.refl H)
  | key b e a r =>
    have q2 : wholeB v (-10000) 9999 = false := by
      obtain ⟨pu, rfl, _⟩ := ix
      rfl
    rw [q2]
    exact ⟨v, .key b e a r, rows, most, rfl, ix, ok, fun H1 s1 => ⟨_, rfl, k H1 s1⟩⟩
  | gate g y =>
    have q2 : wholeB v (-10000) 9999 = false := by
      obtain ⟨pu, _, rfl, _⟩ := ix
      rfl
    rw [q2]
    refine ⟨v, .gate g y, rows, most, rfl, ix, ok, fun H1 s1 => ⟨_, rfl, ?_⟩⟩
    exact ⟨v, .gate g y, rows, most, rfl, ix.tups (Same.tups s1), ok, fun H2 s2 => k H2 (s1.trans s2)⟩
end
end Tm
set_option Elab.async false
set_option linter.all false
set_option maxRecDepth 100000
set_option maxHeartbeats 1000000
namespace Sx
open PySem
section
variable {prog : Program} {w : World} {A : Around} {E : Value → Shared → Prop} {s : Shared}
theorem tupNext {it t : Addr} {i : Nat} {xs : Array Value} {x : Value} {Q : Value → Shared → Prop} (a : s.heap.IsTupleIter it t i) (b : s.heap.IsTuple t xs) (e : xs[i]? = some x)
    (k : ∀ h', h'.IsTupleIter it t (i + 1) → Heap.SameBut it s.heap h' → Q x { s with heap := h' }) : wpAny (model prog w) A (Builtin.SmallTypes.nextOf (.ref it)) Q E s := by
  obtain ⟨o, h1, h2, h3⟩ := id a
  obtain ⟨p, g1, _, n, g2⟩ := b
  refine wpAny_bind (wpAny_callSpecial?_slot (name := Str.ofString "__next__") a.typeIs F.slot_tuple_iterator_next (wpAny_call_entry F.slot_tuple_iterator_next a.typeIs F.entry_tuple_iterator_next ?_ (F.args_tuple_iterator_next_1 _)))
  wp_walk using wpAny_field h1 h3 (i := 0) rfl, wpAny_field h1 h3 (i := 1) rfl
  rw [g2]
  refine wpAny_pure ?_
  simp only [Int.toNat_natCast, e]
  refine wpAny_bind (wpAny_setField h1 h3 (by simp) (wpAny_pure ⟨x, rfl, wpAny_pure (k _ ⟨_, Heap.get?_update_self _ h1 (Obj.isFreed_of_fields (Obj.data_mapFields h3 _)), (Obj.cls_mapFields ..).trans h2, ?_⟩ (Heap.SameBut.update ..))⟩))
  rw [Obj.data_mapFields h3]
  simp [rawInt]
theorem tupStop {it t : Addr} {i : Nat} {xs : Array Value} {Q : Value → Shared → Prop} (hn : A.handled = none) (a : s.heap.IsTupleIter it t i) (b : s.heap.IsTuple t xs) (e : xs[i]? = none)
    (k : ∀ h' e, Heap.ExtBut it s.heap h' → (∃ o, h'.get? e = some o ∧ o.cls = .type "StopIteration") → E (.ref e) { s with heap := h' }) : wpAny (model prog w) A (Builtin.SmallTypes.nextOf (.ref it)) Q E s := by
  obtain ⟨o, h1, h2, h3⟩ := id a
  obtain ⟨p, g1, _, n, g2⟩ := b
  have hn1 : A.in1.handled = none := hn
  refine wpAny_bind (wpAny_callSpecial?_slot (name := Str.ofString "__next__") a.typeIs F.slot_tuple_iterator_next (wpAny_call_entry F.slot_tuple_iterator_next a.typeIs F.entry_tuple_iterator_next ?_ (F.args_tuple_iterator_next_1 _)))
  wp_walk using wpAny_field h1 h3 (i := 0) rfl, wpAny_field h1 h3 (i := 1) rfl
  rw [g2]
  refine wpAny_pure ?_
  simp only [Int.toNat_natCast, e]
  refine wpAny_bind (wpAny_rule (wpAny_bind (wpAny_setField h1 h3 (by simp) ?_)))
  wp_walk
  unfold raiseNew
  refine wpAny_bind (wpAny_handled ?_)
  rw [hn1]
  exact wpAny_bind (wpAny_pure (wpAny_throw (k _ _ (((Heap.SameBut.update ..).extBut.push _).push _) ⟨_, Heap.get?_push_size _ rfl, rfl⟩)))
def SeqB (t : Bool) (h : Heap) (a : Addr) (xs : Array Value) : Prop := match t with | false => h.IsList a xs | true => h.IsTuple a xs
def ItB (t : Bool) (h : Heap) (it a : Addr) (i : Nat) : Prop := match t with | false => h.IsListIter it a i | true => h.IsTupleIter it a i
theorem SeqB.keep {t : Bool} {h h' : Heap} {a : Addr} {xs : Array Value} (q : SeqB t h a xs) (k : ∀ o, h.get? a = some o → h'.get? a = some o) : SeqB t h' a xs := by
  cases t <;> exact let ⟨p, f, r⟩ := q; ⟨p, k _ f, r⟩
theorem ItB.keep {t : Bool} {h h' : Heap} {it a : Addr} {i : Nat} (q : ItB t h it a i) (k : ∀ o, h.get? it = some o → h'.get? it = some o) : ItB t h' it a i := by
  cases t <;> exact let ⟨p, f, r⟩ := q; ⟨p, k _ f, r⟩
theorem ItB.live {t : Bool} {h : Heap} {it a : Addr} {i : Nat} (q : ItB t h it a i) : ∃ o, h.get? it = some o ∧ ∀ v, o.data ≠ .cell v := by
  cases t <;> exact let ⟨p, f, _, d⟩ := q; ⟨p, f, fun v z => by rw [d] at z; cases z⟩
theorem draws (hn : A.handled = none) (t : Bool) (it a : Addr) (ne : a ≠ it) (xs : Array Value) : Draws prog w A it [it, a] xs.size (fun i v => xs[i]? = some v) (fun i h => ItB t h it a i ∧ SeqB t h a xs) where
  live := fun i h q => let ⟨o, e, _⟩ := q.1.live; ⟨o, e⟩
  frame := fun i h h' q k => ⟨q.1.keep fun o e => k _ (by simp) o e, q.2.keep fun o e => k _ (by simp) o e⟩
  item := fun i s Q E l q k => by
    obtain ⟨p, r⟩ := q
    cases t with
    | false => exact wpAny_nextOf_list_item p r (x := xs[i]) (by simp [l]) fun h' p' sb => k _ h' s.toks (by simp [l]) ⟨p', r.keep fun o e => sb.extBut _ _ ne e⟩ sb
    | true => exact tupNext p r (x := xs[i]) (by simp [l]) fun h' p' sb => k _ h' s.toks (by simp [l]) ⟨p', r.keep fun o e => sb.extBut _ _ ne e⟩ sb
  done := fun s Q E q k => by
    obtain ⟨p, r⟩ := q
    cases t with
    | false => exact wpAny_nextOf_list_end hn p r (by simp) k
    | true => exact tupStop hn p r (by simp) k
end
end Sx
set_option Elab.async false
set_option linter.all false
set_option maxRecDepth 100000
set_option maxHeartbeats 1000000
namespace Sx
open PySem
section
variable {prog : Program} {w : World} {A : Around} {E : Value → Shared → Prop} {s : Shared}
theorem srcIter {t : Bool} {a : Addr} {xs : Array Value} {Q : Value → Shared → Prop} (ha : SeqB t s.heap a xs)
    (k : ∀ o : Obj, o.isFreed = false → (∀ h' : Heap, h'.get? s.heap.objs.size = some o → ItB t h' s.heap.objs.size a 0) → Q (.ref s.heap.objs.size) { s with heap := s.heap.push o }) :
    wpAny (model prog w) A (pyIter (.ref a)) Q E s := by
  cases t with
  | false => exact wpAny_pyIter_list ha (k _ rfl fun h' e => ⟨_, e, rfl, rfl⟩)
  | true => exact wpAny_pyIter_tuple ha (k _ rfl fun h' e => ⟨_, e, rfl, rfl⟩)
theorem SeqB.push {t : Bool} {h : Heap} {a : Addr} {xs : Array Value} (o : Obj) (ha : SeqB t h a xs) : SeqB t (h.push o) a xs := ha.keep fun p e => Heap.get?_push_of_some _ e
end
end Sx
set_option Elab.async false
set_option linter.all false
set_option maxRecDepth 100000
set_option maxHeartbeats 1000000
namespace L2
open PySem PySem.Spec PyProof.Rows Sx
def SqB (t : Bool) (K : PySem.W.Frag) (H : Hp) (a : Addr) (xs : List V) : Prop := match t with | false => SqL K H a xs | true => SqT K H a xs
theorem Inv.seqB {X : Cx} {pins : List (Addr × Obj)} {σ : St} {H : Hp} {s : Shared} {t : Bool} {a : Addr} {xs : List V} (I : Inv X pins σ H s) (q : SqB t X.K H a xs) : ∃ its : List Value, Vals xs its ∧ SeqB t s.heap a its.toArray := by
  cases t with
  | false =>
    obtain ⟨its, rv, p, _⟩ := I.list q
    exact ⟨its, rv, p.isList⟩
  | true =>
    obtain ⟨its, rv, p, _⟩ := I.tuple q
    exact ⟨its, rv, p⟩
theorem Inv.seqB_inj {X : Cx} {pins : List (Addr × Obj)} {σ : St} {H : Hp} {s : Shared} {t : Bool} {a : Addr} {xs ys : List V} (I : Inv X pins σ H s) (q : SqB t X.K H a xs) (r : SqB t X.K H a ys) : xs = ys := by
  cases t with
  | false => exact I.list_inj q r
  | true => exact I.tuple_inj q r
theorem seqB_lt {t : Bool} {h : Heap} {a : Addr} {xs : Array Value} (q : SeqB t h a xs) : a < h.objs.size := by
  cases t <;> exact let ⟨_, e, _⟩ := q; Heap.lt_size e
end L2
set_option Elab.async false
set_option linter.all false
set_option maxRecDepth 100000
set_option maxHeartbeats 1000000
namespace Sx
open PySem
section
variable {prog : Program} {w : World} {A : Around} {E : Value → Shared → Prop} {s : Shared}
theorem SeqB.obj {t : Bool} {h : Heap} {a : Addr} {xs : Array Value} (q : SeqB t h a xs) : ∃ o, h.get? a = some o := by
  cases t <;> exact let ⟨o, e, _⟩ := q; ⟨o, e⟩
theorem enumNew {t : Bool} {a : Addr} {xs : Array Value} {Q : Value → Shared → Prop} (ha : SeqB t s.heap a xs)
    (k : ∀ h', IsEnum h' (s.heap.objs.size + 1) s.heap.objs.size 0 .none → ItB t h' s.heap.objs.size a 0 → (∀ c o, s.heap.get? c = some o → h'.get? c = some o) → Q (.ref (s.heap.objs.size + 1)) { s with heap := h' }) :
    wpAny (model prog w) A (call (.type "enumerate") [.ref a]) Q E s := by
  have mk : Meets (Builtin.«enumerate.__new__» ⟨[.type "enumerate", .ref a], []⟩) (fun _ R u => SeqB t u.heap a xs ∧
      ∀ h', IsEnum h' (u.heap.objs.size + 1) u.heap.objs.size 0 .none → ItB t h' u.heap.objs.size a 0 → (∀ c o, u.heap.get? c = some o → h'.get? c = some o) → R (.ok (.ret (.ref (u.heap.objs.size + 1)))) { u with heap := h' }) := .of_wp fun prog w A R u h => by
    obtain ⟨hp, g, d, tk, os⟩ := u
    obtain ⟨h1, h⟩ := h
    obtain ⟨o, ho⟩ := h1.obj
    have hsub := sub_enumerate
    have fin : ∀ o1 : Obj, o1.isFreed = false → (∀ h' : Heap, h'.get? hp.objs.size = some o1 → ItB t h' hp.objs.size a 0) → R (.ok (.ret (.ref (hp.push o1).objs.size))) ⟨(hp.push o1).push { cls := .type "enumerate", data := .fields #[.none, .bool false, .ref hp.objs.size, rawInt 0, .none, .none] }, g, d, tk, os⟩ := fun o1 f1 q1 => by
      have z : (hp.push o1).objs.size = hp.objs.size + 1 := Heap.size_push ..
      rw [z]
      exact h _ (Heap.get?_push_at z.symm rfl) (q1 _ (Heap.get?_push_of_some _ (Heap.get?_push_size _ f1))) fun c p e => Heap.get?_push_of_some _ (Heap.get?_push_of_some _ e)
    clear h
    wp_walk using AutoSeq1.wpAny_loadPart' ho
    refine wpAny_stack_any fun st => wpAny_pure ?_
    split
    · rename_i c _ _ _ _ _
      cases (c == Value.type "enumerate") <;> (wp_walk using AutoSeq1.wpAny_loadPart' ho, srcIter h1; intro o1 f1 q1; wp_walk; exact ⟨_, rfl, fin o1 f1 q1⟩)
    · wp_walk using AutoSeq1.wpAny_loadPart' ho, srcIter h1
      intro o1 f1 q1
      wp_walk
      exact ⟨_, rfl, fin o1 f1 q1⟩
  exact callType_new F.called_enumerate (by decide) (F.typeCall_enumerate_1 _) (F.newCall_enumerate_1 _) (fun obj => F.args_object_init_2 obj _) F.entry_enumerate_new mk ⟨ha, fun h' e1 e2 e3 => ⟨⟨_, e1, rfl⟩, k h' e1 e2 e3⟩⟩
end
end Sx
namespace L2
open PySem PySem.Spec PyProof.Rows Sx
def Ite2 (K : PySem.W.Frag) (t : Bool) (a : Addr) : It :=
  ⟨fun i H => ∃ (xs : List V) (x : V), SqB t K H a xs ∧ xs[i]? = some x, fun i H v H' => ∃ T x, v = .ref T ∧ H T = none ∧ H' = upd H T (.tup [.int (i : Nat), x]) ∧ ∀ xs, SqB t K H a xs → xs[i]? = some x, fun i H => ∃ xs : List V, SqB t K H a xs ∧ i = xs.length⟩
def Ep (t : Bool) (a n : Addr) (i : Nat) (h : Heap) : Prop := (∃ old, IsEnum h (n + 1) n ((i : Nat) : Int) old) ∧ ItB t h n a i
theorem ap2a (a n : Nat) (l : a < n) : a ≠ n ∧ n + 1 ≠ n ∧ n + 1 ∉ [n, a] ∧ n ≠ n + 1 := by
  refine ⟨by omega, by omega, ?_, by omega⟩
  intro z
  simp at z
  omega
theorem ap2b (c n m : Nat) (h : c = n + 1 ∨ c = n) (l : n + 1 < m) : c < m := by omega
theorem ap2c (c n : Nat) (h : c = n + 1 ∨ c = n) : n ≤ c := by omega
theorem fp2 {n c : Addr} (h : c ∈ [n + 1, n]) : c = n + 1 ∨ c = n := by simpa using h
theorem no2 {n c : Addr} (h : c ∉ [n + 1, n]) : c ≠ n + 1 ∧ c ≠ n := by simpa using h
theorem turn_enum2 {P : Program} {w : World} {K : PySem.W.Frag} {elts : List Expr} {kk : Nat} {tpos : Pos} {t : Bool} {a n : Addr} (la : a < n) :
    Turn P w K (.Tuple elts kk tpos) (Ite2 K t a) [n + 1, n] (n + 1) (Ep t a n) where
  mem := List.mem_cons_self ..
  obj := fun i h st c hc => by
    obtain ⟨⟨old, he⟩, d⟩ := st
    rcases fp2 hc with rfl | rfl
    · exact ⟨_, he, fun v q => nomatch q⟩
    · exact d.live
  keep := fun i h h' st k => let ⟨⟨old, he⟩, d⟩ := st; ⟨⟨old, k _ (by simp) _ he⟩, d.keep fun o q => k _ (by simp) o q⟩
  item := by
    intro X hP hw hK hc i pins s σ H E I hf st hg
    subst hP hw hK
    obtain ⟨⟨old, he⟩, d⟩ := st
    obtain ⟨xs, x, q, ex⟩ := hg
    obtain ⟨is, r, p⟩ := I.seqB q
    obtain ⟨u, eu, vu⟩ := r.get ex
    obtain ⟨a1, a2, a3, a4⟩ := ap2a a n la
    have zl : n + 1 < s.heap.objs.size := Heap.lt_size he
    have il : i < is.toArray.size := by simpa using (List.getElem?_eq_some_iff.mp eu).1
    have hn : X.A.in1.handled = none := I.ok.hd hc
    refine wpAny_pyNext_enum_itemD (draws hn t n a a1 is.toArray) he ⟨d, p⟩ il a2 a3 fun x' h' tk qx ho dd hT sz kp => ?_
    refine ⟨_, rfl, wpAny_letOwnedTupleGo_enum (s := { s with heap := h', toks := tk + 1 }) ho fun h'' he' sb => ?_⟩
    have g1 : x' = u := by
      rw [List.getElem?_toArray, eu] at qx
      exact (Option.some.inj qx).symm
    subst g1
    have T2 : h''.get? s.heap.objs.size = some { cls := .type "tuple", data := .seq #[.int i tk, x'] } := (sb.2 _ (Nat.ne_of_gt zl)).trans hT
    have new : ObjOk X.prog X.w (upd H s.heap.objs.size (.tup [.int (i : Nat), x])) h'' s.heap.objs.size (.tup [.int (i : Nat), x]) :=
      ⟨by show 2 ≤ sizeLine; decide, [.int i tk, x'], .cons ⟨_, rfl⟩ (.cons vu .nil), ⟨_, T2, rfl, _, rfl⟩⟩
    have I1 : Inv X pins σ (upd H s.heap.objs.size (.tup [.int (i : Nat), x])) { s with heap := h'', toks := tk + 1 } :=
      I.turnedNew (ch := [n + 1, n]) (fun c o hb q => by
        obtain ⟨c1, c2⟩ := no2 hb
        exact (sb.2 c c1).trans (kp c o c1 c2 q)) hf (Nat.le_refl _) new
    refine ⟨.ref s.heap.objs.size, _, I1, rfl, ⟨_, x, rfl, I.hok.fresh (Nat.le_refl _), rfl, fun l hl => by rw [I.seqB_inj hl q]; exact ex⟩, ⟨⟨x', ?_⟩, dd.1.keep fun o q => (sb.2 _ a4).trans q⟩, fun c hcm => ?_⟩
    · have e1 : ((i + 1 : Nat) : Int) = (i : Int) + 1 := by omega
      rw [e1]
      exact he'
    · rw [upd_ne (Nat.ne_of_lt (ap2b c n _ (fp2 hcm) zl))]
      exact (hf c hcm).1
  done := by
    intro X hP hw hK hc i pins s σ H E I hf st hg
    subst hP hw hK
    obtain ⟨⟨old, he⟩, d⟩ := st
    obtain ⟨xs, q, rfl⟩ := hg
    obtain ⟨is, r, p⟩ := I.seqB q
    obtain ⟨a1, a2, a3, a4⟩ := ap2a a n la
    have hn : X.A.in1.handled = none := I.ok.hd hc
    obtain ⟨f0, f1, f2, f3, f4, f5⟩ := hf n (by simp)
    have hl : xs.length = is.toArray.size := by rw [r.length, List.size_toArray]
    refine wpAny_pyNext_enum_endD (draws hn t n a a1 is.toArray) he ⟨?_, p⟩ fun h' eb => ⟨rfl, I.turned (t' := s.toks) (fun b o hb q => eb b o hb q) f0 f1 f3 f4 f5⟩
    rw [← hl]
    exact d
  self := fun A i s Q E st h => let ⟨⟨_, he⟩, _⟩ := st; wpAny_pyIter_enum he h
def iEnum2 (K : PySem.W.Frag) (t : Bool) (ta : TA) : TI := fun σ H R => ta σ H fun vs H1 => ∃ a xs, vs = [.ref a] ∧ SqB t K H1 a xs ∧ R (Ite2 K t a) H1
theorem pi_enum2 {X : Cx} (t : Bool) {e : Expr} {ta : TA} {p pos tpos : Pos} {elts : List Expr} {kk : Nat} (hg : Gl X "enumerate") (hm : X.mg "enumerate" = none) (ha : PA X [e] ta) (hs : starEach [e] X.env = [(false, eval e X.env)] := by rfl) :
    PI X (.Tuple elts kk tpos) (.Call (.Name "enumerate" p) [e] [] pos) (iEnum2 X.K t ta) := by
  intro pins s σ H R I h
  refine Call_ (ld_blt I hg hm boot_enumerate (PyProof.Rows.callWith_type1 (thn (ha pos pins s σ H _ I h) fun us s1 ⟨vs, H1, I1, r1, q1⟩ => ?_) hs rfl))
  obtain ⟨a, xs, ex, hq, q⟩ := q1
  subst ex
  cases r1 with
  | cons r rr =>
    cases rr
    cases r
    obtain ⟨is, rv, p'⟩ := I1.seqB hq
    refine enumNew p' fun h' he d kp => wpAny_pyIter_enum he ?_
    have I2 : Inv X pins σ H1 { s1 with heap := h' } := I1.kept (t' := s1.toks) kp
    refine ⟨s1.heap.objs.size + 1, _, _, _, H1, rfl, I2, turn_enum2 (seqB_lt p'), ⟨⟨.none, he⟩, d⟩, fun c hcm => ?_, q⟩
    have hle : s1.heap.objs.size ≤ c := ap2c c _ (fp2 hcm)
    exact I1.fpOk hle (I1.hok.fresh hle)
end L2
set_option Elab.async false
set_option linter.all false
set_option maxRecDepth 100000
set_option maxHeartbeats 1000000
namespace L2
open PySem PySem.Spec PyProof.Rows
section
variable {X : Cx} {k i : Nat} {f : Addr} {fd : FuncData} {x : Str} {ps : List Str} {sp : Sp} {t : TA} {e : Expr} {es : List Expr} {p pos : Pos}
theorem pe_globR {a : Addr} (h : X.mg x = some (.ref a)) (hg : Gl X x := by rfl) (hd : (x == ("__debug__" : Str)) = false := by decide) : PE X (.Name x pos) (tC (.ref a)) := pe_glob hg h rfl hd
end
end L2
namespace Tm
open PySem L2
structure Tp (K : PySem.W.Frag) (mg : Str → Option Value) (x : Str) (a : Addr) (xs : List V) : Prop where
  m : mg x = some (.ref a)
  t : ∀ H, SqT K H a xs
end Tm
set_option Elab.async false
set_option linter.all false
set_option maxRecDepth 100000
set_option maxHeartbeats 1000000
namespace L2
open PySem PySem.Spec PyProof.Rows
section
variable {P : Program} {w : World} {H : Hp} {h h' : Heap} {T : Addr} {ps more : Array Value} {fs ex : List Addr}
theorem HOk.grow (ok : HOk P w H h) (hT : H T = some (.tbl ps)) (k : ∀ b u, b ≠ T → h.get? b = some u → h'.get? b = some u) (new : h'.get? T = some { cls := .none, data := .fields (ps ++ more) }) : HOk P w (upd H T (.tbl (ps ++ more))) h' := fun b u e => by
  by_cases hb : b = T
  · subst hb
    rw [upd_same] at e
    cases e
    exact new
  · rw [upd_ne hb] at e
    refine (ok b u e).stay (fun c v hc q => k c v ?_ q) (fun c q => ?_) fun c xs q => ?_
    · rcases hc with z | z
      · rw [z]; exact hb
      · rintro rfl
        rw [hT] at z
        cases z
    · rw [upd_ne]
      · exact q
      · rintro rfl
        rw [hT] at q
        cases q
    · rw [upd_ne]
      · exact q
      · rintro rfl
        rw [hT] at q
        cases q
theorem Un.grow (hT : H T = some (.tbl ps)) (k : ∀ b u, b ≠ T → h.get? b = some u → h'.get? b = some u) (new : h'.get? T = some { cls := .none, data := .fields (ps ++ more) }) : Un fs ex H (upd H T (.tbl (ps ++ more))) h h' := by
  have nn : ∀ b, H b = none → b ≠ T := fun b n z => by rw [z, hT] at n; cases n
  refine ⟨fun b u q n _ _ => k b u (nn b n) q, fun b u q n _ _ => ⟨u.slots, k b u (nn b n) q⟩, fun b u q n _ => by rw [upd_ne (nn b n)]; exact n, fun b u q _ => ?_, fun b xs q => ?_, fun b o u q => ?_, fun b qs q => ?_⟩
  · by_cases hb : b = T
    · exact ⟨_, hb ▸ new⟩
    · exact ⟨u, k b u hb q⟩
  · rw [upd_ne]
    · exact q
    · rintro rfl
      rw [hT] at q
      cases q
  · rw [upd_ne]
    · exact q
    · rintro rfl
      rw [hT] at q
      cases q
  · by_cases hb : b = T
    · subst hb
      rw [hT] at q
      cases q
      exact ⟨more, upd_same⟩
    · exact ⟨#[], by rw [upd_ne hb, q]; simp⟩
theorem HOk.add {a : Addr} {o : HO} (ok : HOk P w H h) (hn : H a = none) (new : ObjOk P w (upd H a o) h a o) : HOk P w (upd H a o) h := fun b u e => by
  by_cases hb : b = a
  · subst hb
    rw [upd_same] at e
    cases e
    exact new
  · rw [upd_ne hb] at e
    exact (ok b u e).stay (fun _ _ _ q => q) (fun c q => by rw [upd_ne (ne_of_none q hn)]; exact q) fun c xs q => by rw [upd_ne (ne_of_none q hn)]; exact q
theorem Un.also {H1 : Hp} {a : Addr} {o : HO} (u : Un fs ex H H1 h h') (hge : h.objs.size ≤ a) (hn : H1 a = none) : Un fs ex H (upd H1 a o) h h' := by
  have nb : ∀ {b : Addr} {v : Obj}, h.get? b = some v → b ≠ a := fun e => Nat.ne_of_lt (Nat.lt_of_lt_of_le (Heap.lt_size e) hge)
  refine ⟨u.keep, u.slot, fun b v q n hx => by rw [upd_ne (nb q)]; exact u.free b v q n hx, u.there, fun b xs q => ?_, fun b v xs q => ?_, fun b ps q => ?_⟩
  · have e := u.tups b xs q
    rw [upd_ne (ne_of_none e hn)]
    exact e
  · have e := u.frzs b v xs q
    rw [upd_ne (ne_of_none e hn)]
    exact e
  · obtain ⟨m, e⟩ := u.tbls b ps q
    exact ⟨m, by rw [upd_ne (ne_of_none e hn)]; exact e⟩
end
def phC (c : Addr) (qual : Str) : Heap → Prop := fun h => h.CodeRec (.ref c) qual
def phF (f : Addr) (fd : FuncData) : Heap → Prop := fun h => h.get? f = some { cls := .type "function", data := .func fd }
theorem ext_code {P : Program} {w : World} {H : Hp} {h : Heap} {c : Addr} {qual : Str} (x : h.CodeRec (.ref c) qual) : ObjOk P w H h c (.ext (phC c qual)) := by
  refine ⟨x, ?_, fun h1 h2 y k => ?_⟩
  · obtain ⟨c2, o, vs, t, e, g, _⟩ := x
    cases e
    exact ⟨o, g⟩
  · obtain ⟨c2, o, vs, t, e, g, r⟩ := y
    cases e
    exact ⟨c, o, vs, t, rfl, k _ g, r⟩
theorem ext_fun {P : Program} {w : World} {H : Hp} {h : Heap} {f : Addr} {fd : FuncData} (x : h.get? f = some { cls := .type "function", data := .func fd }) : ObjOk P w H h f (.ext (phF f fd)) :=
  ⟨x, ⟨_, x⟩, fun h1 h2 y k => k _ y⟩
def TblOk (pos : Pos) (qual : Str) (H : Hp) (T : Addr) : Prop := H T = some (.tbl #[]) ∨ ∃ c, H T = some (.tbl #[rawInt pos.line, rawInt pos.col, .ref c]) ∧ H c = some (.ext (phC c qual))
def Bm (base : Heap) (mg : Str → Option Value) : Prop := ∃ bm o, mg "__builtins__" = some (.ref bm) ∧ bm ≠ builtinsNs ∧ bm ≠ mainGlobals ∧ base.get? bm = some o ∧ o.cls = .type "module" ∧ o.dict = some builtinsNs ∧ o.data = .plain
section
variable {X : Cx} {i : Nat} {name : Str} {params : Arguments} {body : List Stmt} {scope : Scope} {pos : Pos} {c T : Addr} {clos : List (Str × Addr)}
def tDef (i : Nat) (pos : Pos) (qual : Str) (T : Addr) (mk : Value → Value → Addr → Value → FuncData) : TS := fun D σ H => TblOk pos qual H T ∧ ∀ (f c' : Addr) (doc pm ctv : Value) (H' : Hp), H f = none → (∀ b o, b ≠ T → H b = some o → H' b = some o) → TblOk pos qual H' T →
  H' f = some (.ext (phF f (mk doc pm c' ctv))) → H' c' = some (.ext (phC c' qual)) → D.nx (σ.set i (some (.ref f))) H'
theorem ps_def (B : Bm X.base X.mg) (hcode : X.env.code = .ref c) (hC : PySem.W.codeHdIn X.K c T = true) (hcl : closureFor scope X.env = pure clos) (hN : X.N.Nodup) (hi : X.N[i]? = some name) (hloc : X.env.scope.names.lookup name = some .local)
    (hd0 : params.defaults = []) (hk0 : params.kw_defaults = []) (ha : annTrees params none X.env = []) :
    PS X (.FunctionDef name params body [] none [] scope none name pos) (tDef i pos (qualnameIn X.env name name) T fun doc pm c' ctv => PySem.W.fnX name (qualnameIn X.env name name) params body scope clos .none .none doc pm none (.ref c') ctv) := by
  intro pins s σ H D I h
  obtain ⟨tb, k⟩ := h
  refine PySem.W.nestDef_K hd0 hk0 ha ?_
  have C : PySem.W.CodeHd s.heap c T := PySem.W.codeHd_of_K I.kIn hC
  have hg : s.heap.Ns mainGlobals X.mg := I.mod.glob.keeps I.bk
  have nT : ∀ {b : Addr} {o : Obj} {ps : Array Value}, X.base.get? b = some o → H T = some (.tbl ps) → b ≠ T := fun e q z => by
    have := (I.bs _ _ e).2
    rw [z, q] at this
    cases this
  have hgT : ∀ {ps : Array Value}, H T = some (.tbl ps) → mainGlobals ≠ T := fun q => by
    obtain ⟨o, es, ep, e, _⟩ := I.mod.glob
    exact nT e q
  have hb : ∀ {ps : Array Value}, H T = some (.tbl ps) → s.heap.BuiltinsAt X.mg T := fun q => by
    obtain ⟨bm, o, b1, b2, b3, b4, b5⟩ := B
    exact ⟨bm, o, b1, b2, b3, nT b4 q, I.bk _ _ b4, b5⟩
  have fin : ∀ (h1 : Heap) (H1 : Hp) (c' : Addr) (doc ctv : Value) (tk : Tok), Inv X pins σ H1 { s with heap := h1, toks := tk } → H h1.objs.size = none → (∀ b o, b ≠ T → H b = some o → H1 b = some o) → TblOk pos (qualnameIn X.env name name) H1 T → H1 c' = some (.ext (phC c' (qualnameIn X.env name name))) →
      wpAny (model X.prog X.w) X.A (storeName X.env name (.ref h1.objs.size)) (fun _ s'' => SP X pins D .next s'') X.xe { s with heap := h1.push (PySem.W.fnMade name (qualnameIn X.env name name) params body scope clos doc ((X.mg "__name__").getD .none) c' ctv), toks := tk } := by
    intro h1 H1 c' doc ctv tk I1 nf keep tb1 hc1
    have I2 := I1.laid (t' := tk) (h' := h1.push (PySem.W.fnMade name (qualnameIn X.env name name) params body scope clos doc ((X.mg "__name__").getD .none) c' ctv)) (a := h1.objs.size) (o := .ext (phF h1.objs.size (PySem.W.fnX name (qualnameIn X.env name name) params body scope clos .none .none doc ((X.mg "__name__").getD .none) none (.ref c') ctv)))
      (fun b u e => Heap.get?_push_of_some _ e) (Nat.le_refl _) (ext_fun (Heap.get?_push_size _ rfl))
    have nf1 : H1 h1.objs.size = none := I1.hok.fresh (Nat.le_refl _)
    refine store_ok I2 hN hi (.inl hloc) (v := .ref h1.objs.size) rfl (fun s' I3 => ⟨_, _, I3, ?_⟩) (.inr hloc)
    refine k h1.objs.size c' doc _ ctv _ nf (fun b o hb e => ?_) ?_ upd_same ?_
    · rw [upd_ne (ne_of_none (keep b o hb e) nf1)]
      exact keep b o hb e
    · rcases tb1 with z | ⟨c2, z1, z2⟩
      · exact .inl (by rw [upd_ne (ne_of_none z nf1)]; exact z)
      · exact .inr ⟨c2, by rw [upd_ne (ne_of_none z1 nf1)]; exact z1, by rw [upd_ne (ne_of_none z2 nf1)]; exact z2⟩
    · rw [upd_ne (ne_of_none hc1 nf1)]
      exact hc1
  rcases tb with hT | ⟨c', hT, hc'⟩
  · have oT : s.heap.get? T = some (PySem.W.tabObj #[]) := I.hok T _ hT
    refine PySem.W.makeFunction_K (mg := X.mg) hcl I.ok.glob hg hcode C oT trivial rfl (hgT hT) (hb hT) fun c' ctv doc h' tk hx hge hlt hrec htb => ?_
    have hkx : ∀ b u, b ≠ T → s.heap.get? b = some u → h'.get? b = some u := fun b u hb q => hx b u hb q
    have hn : H c' = none := I.hok.fresh hge
    have ncT : c' ≠ T := fun z => by
      rw [z, hT] at hn
      cases hn
    have nc : (upd H T (.tbl (#[] ++ #[rawInt pos.line, rawInt pos.col, .ref c']))) c' = none := by
      rw [upd_ne ncT]
      exact hn
    have I2 : Inv X pins σ (upd (upd H T (.tbl (#[] ++ #[rawInt pos.line, rawInt pos.col, .ref c']))) c' (.ext (phC c' (qualnameIn X.env name name)))) { s with heap := h', toks := tk } :=
      I.un (t' := tk) ((Un.grow hT hkx htb).also hge nc) ((I.hok.grow hT hkx htb).add nc (ext_code hrec))
    have szh : s.heap.objs.size ≤ h'.objs.size := Nat.le_trans hge (Nat.le_of_lt hlt)
    refine fin h' _ c' doc ctv tk I2 (I.hok.fresh szh) (fun b o hb e => ?_) (.inr ⟨c', ?_, upd_same⟩) upd_same
    · rw [upd_ne (ne_of_none e hn), upd_ne hb]
      exact e
    · rw [upd_ne ncT.symm, upd_same]
      rfl
  · have oT : s.heap.get? T = some (PySem.W.tabObj #[rawInt pos.line, rawInt pos.col, .ref c']) := I.hok T _ hT
    refine PySem.W.makeFunction_hit (mg := X.mg) hcl I.ok.glob hg hcode C oT trivial (cv := .ref c') (by simp [codeAmong, rawInt]) (hb hT) fun ctv doc h' tk hk hsz => ?_
    refine fin h' H c' doc ctv tk (I.kept hk) (I.hok.fresh hsz) (fun b o _ e => e) (.inr ⟨c', hT, hc'⟩) hc'
end
end L2
set_option Elab.async false
set_option linter.all false
set_option maxRecDepth 100000
set_option maxHeartbeats 1000000
namespace L2
open PySem PySem.Spec PyProof.Rows
def cxC (CX : CXT) (P : Program) (w : World) (K : PySem.W.Frag) (mg : Str → Option Value) (base : Heap) (N : List Str) (qual : Str) (scope : Scope) (f : Addr) (cd : Value) (clos : List (Str × Addr)) (A : Around) (outer : List Env) (s : Shared) (H : Hp) (E : XK) : Cx where
  prog := P
  w := w
  K := K
  mg := mg
  base := base
  A := A.deeper (PySem.W.envX qual scope s.heap.objs.size f cd clos)
  N := N
  s_0 := s
  H_0 := H
  env := PySem.W.envX qual scope s.heap.objs.size f cd clos
  outer := outer
  stack := PySem.W.envX qual scope s.heap.objs.size f cd clos :: outer
  ex := []
  calm := true
  fn := fun _ => false
  pn := []
  xe := fun e s' => wpAny (model P w) (A.deeper (PySem.W.envX qual scope s.heap.objs.size f cd clos)) (leaving (PySem.W.envX qual scope s.heap.objs.size f cd clos) e) (fun _ s'' => CX outer H s E e s'') (fun e' s'' => CX outer H s E e' s'') s'
structure CloScope (N : List Str) (p : Str) (fr : List Str) (sc : Scope) : Prop where
  kind : sc.kind = .function
  co : sc.isCoroutine = false
  gen : sc.isGenerator = false
  eq : N = p :: fr
  par : sc.names.lookup p = some .local
  fre : ∀ x ∈ fr, sc.names.lookup x = some .free
  nocell : ∀ x ∈ sc.names, x.2 ≠ .cell
  only : ∀ x, sc.names.lookup x = some .free → x ∈ fr
structure CellsAt (h : Heap) (H : Hp) (outer : List Env) (clos : List (Str × Addr)) (fr : List Str) (ws : List V) : Prop where
  at_ : ∀ (j : Nat) (x : Str) (v : V), fr[j]? = some x → ws[j]? = some v → ∃ c u, clos.lookup x = some c ∧ h.IsCell c (some u) ∧ RelV v u
  all : ∀ x c, clos.lookup x = some c → ∃ v, h.IsCell c v
  non : ∀ x c, clos.lookup x = some c → H c = none
  out : ∀ x c, clos.lookup x = some c → c ∉ frs outer
theorem CellsAt.keep {h h' : Heap} {H H' : Hp} {o o' : List Env} {clos : List (Str × Addr)} {fr : List Str} {ws : List V} (c : CellsAt h H o clos fr ws) (k : ∀ x a ob, clos.lookup x = some a → h.get? a = some ob → h'.get? a = some ob) (n : ∀ x a, clos.lookup x = some a → H' a = none) (ot : ∀ x a, clos.lookup x = some a → a ∉ frs o') : CellsAt h' H' o' clos fr ws := by
  refine ⟨fun j x v e1 e2 => ?_, fun x a e => ?_, n, ot⟩
  · obtain ⟨a, u, e3, ⟨ob, e4, e5⟩, r⟩ := c.at_ j x v e1 e2
    exact ⟨a, u, e3, ⟨ob, k x a ob e3 e4, e5⟩, r⟩
  · obtain ⟨v, ob, e4, e5⟩ := c.all x a e
    exact ⟨v, ob, k x a ob e e4, e5⟩
section
variable {P : Program} {w : World} {K : PySem.W.Frag} {mg : Str → Option Value} {base : Heap} {N fr : List Str} {p qual : Str} {scope : Scope} {f : Addr} {cd : Value} {clos : List (Str × Addr)} {A : Around} {outer : List Env} {s : Shared} {H : Hp} {E : XK} {CX : CXT} {ws : List V} {v : V} {u : Value}
theorem inv_startC (S : CloScope N p fr scope) (inj : ∀ x y c, clos.lookup x = some c → clos.lookup y = some c → x = y) (hd : A.handled = none) (e0 : Env0 P w K mg base A outer s H) (cl : CellsAt s.heap H outer clos fr ws) (lw : ws.length = fr.length) (r : RelV v u) {h' : Heap} {tk : Tok}
    (hns : h'.Ns s.heap.objs.size (fun x => [(p, u)].reverse.lookup x)) (hk : ∀ b o, s.heap.get? b = some o → h'.get? b = some o) :
    Inv (cxC CX P w K mg base N qual scope f cd clos A outer s H E) [] (some v :: ws.map some) H { s with heap := h', toks := tk } := by
  have noA : ∀ b : Addr, b ∉ (cxC CX P w K mg base N qual scope f cd clos A outer s H E).ex := fun b z => absurd (show b ∈ ([] : List Addr) from z) (by simp)
  refine ⟨⟨e0.mod, S.kind, rfl, rfl, Nat.le_refl _, fun y z c h1 h2 => inj y z c h1 h2, fun y hy => ?_, fun y c z _ => (by cases z), fun _ => hd, Around.frames_deeper e0.frames, .inr ⟨rfl, rfl⟩, fun b z => absurd z (noA b), e0.bs, e0.bsz, fun b _ _ => noA b, fun b z => absurd z (noA b), e0.funs, e0.frf⟩,
    rfl, e0.bare, Un.kept hk, ⟨_, hns, fun i y v' h1 h2 h3 => ?_⟩, fun y c h => ?_, e0.hok.fresh (Nat.le_refl _), fun y c h => cl.non y c h, fun q hq => absurd (show q ∈ ([] : List (Addr × Obj)) from hq) (by simp), e0.hok.kept hk, ?_⟩
  · have hy : scope.names.lookup y = some .cell ∨ scope.names.lookup y = some .free := hy
    rcases hy with hy | hy
    · exact absurd rfl (S.nocell _ (PySem.mem_of_lookup hy))
    · obtain ⟨j, hj⟩ := List.mem_iff_getElem?.mp (S.only y hy)
      have hl : j < ws.length := by
        rw [lw]
        exact (List.getElem?_eq_some_iff.mp hj).1
      obtain ⟨c, _, e, _⟩ := cl.at_ j y ws[j] hj (List.getElem?_eq_getElem hl)
      exact ⟨c, e⟩
  · have h1 : (p :: fr)[i]? = some y := by
      rw [← S.eq]
      exact h1
    cases i with
    | zero =>
      cases h1
      cases h2
      refine ⟨u, r, .inl ⟨S.par, ?_⟩⟩
      show ([(p, u)] : List (Str × Value)).reverse.lookup p = some u
      simp
    | succ j =>
      have h1 : fr[j]? = some y := h1
      have h2 : (ws.map some)[j]? = some (some v') := h2
      rw [List.getElem?_map] at h2
      obtain ⟨z, ez, eq⟩ := Option.map_eq_some_iff.mp h2
      cases eq
      obtain ⟨c, u', e3, e4, e5⟩ := cl.at_ j y v' h1 ez
      obtain ⟨ob, e6, e7⟩ := e4
      exact ⟨u', e5, .inr ⟨.inr (S.fre y (List.mem_of_getElem? h1)), c, e3, ob, hk _ _ e6, e7⟩⟩
  · obtain ⟨z, ob, e1, e2⟩ := cl.all y c h
    exact ⟨z, ob, hk _ _ e1, e2⟩
  · show (some v :: ws.map some).length = N.length
    rw [S.eq, List.length_cons, List.length_cons, List.length_map, lw]
theorem run_clo {name : Str} {params : Arguments} {body : List Stmt} {dV kV doc pm ct : Value} {an : Option Addr} {k : Nat} {Q : VK} {t : TS} (ho : s.heap.get? f = some { cls := .type "function", data := .func (PySem.W.fnX name qual params body scope clos dV kV doc pm an cd ct) }) (hcd : s.heap.CodeRec cd qual)
    (S : CloScope N p fr scope) (inj : ∀ x y c, clos.lookup x = some c → clos.lookup y = some c → x = y) (cl : CellsAt s.heap H outer clos fr ws) (lw : ws.length = fr.length) (hr : Room (k + 1) A) (e0 : Env0 P w K mg base A outer s H)
    (hb : bindArgs (PySem.W.fnX name qual params body scope clos dV kV doc pm an cd ct) ⟨[u], []⟩ = pure [(p, u)]) (r : RelV v u)
    (ht : PSs (cxC CX0 P w K mg base N qual scope f cd clos A outer s H E).nox body t) (hq : t { nx := fun _ H' => Q .non H', rt := Q } (some v :: ws.map some) H) :
    codeAny (model P w) A (.call (.ref f) ⟨[u], []⟩) (CR CX0 outer P w H s Q E) s := by
  have lim : s.heap.NoLimit := e0.mod.nolimit.keeps fun b o e => (e0.bs b o e).1
  refine codeAny_call_function hr.depth ho rfl S.co S.gen rfl hcd ((BindsTo.of_eq hb) _ _ _ _ ?_)
  refine wpAny_newFunctionEnv (around := none) S.nocell (fun y hy => ?_) (fun h' hns hsame => ?_) S.kind
  · have e : y = (p, u) := by simpa using hy
    subst e
    exact S.par
  have hk : ∀ b o, s.heap.get? b = some o → h'.get? b = some o := fun b o e => (hsame.2 b (Nat.ne_of_lt (Heap.lt_size e))).trans (Heap.get?_push_of_some _ e)
  refine ⟨lim.keeps hk, codeAny_func ?_⟩
  have I : Inv (cxC CX0 P w K mg base N qual scope f cd clos A outer s H E) [] (some v :: ws.map some) H { s with heap := h', toks := s.toks + [(p, u)].length } := inv_startC S inj hr.hd e0 cl lw r hns hk
  refine wpAny_mono (ht.nox [] _ _ H _ I hq) (fun fl s' hs => ?_) fun e s' hs => hs
  have fin : ∀ {σ' : St} {H' : Hp} {v : V} {u : Value}, Inv (cxC CX0 P w K mg base N qual scope f cd clos A outer s H E) [] σ' H' s' → RelV v u → Q v H' → CE outer P w H s Q u s' :=
    fun {σ' H' v u} J rv q => ⟨v, H', J.os, J.bare, J.base, J.hok, rv, q⟩
  cases fl with
  | ret u =>
    obtain ⟨v, σ', H', J, rv, q⟩ := hs
    exact fin J rv q
  | next =>
    obtain ⟨σ', H', J, q⟩ := hs
    exact fin (v := V.non) (u := Value.none) J rfl q
  | brk =>
    obtain ⟨_, _, _, q⟩ := hs
    exact False.elim q
  | cont =>
    obtain ⟨_, _, _, q⟩ := hs
    exact False.elim q
end
section
variable {X : Cx} {i k : Nat} {f c : Addr} {x : Str} {N fr : List Str} {pn name qual : Str} {params : Arguments} {body : List Stmt} {scope : Scope} {clos : List (Str × Addr)} {dV kV doc pm ct : Value} {an : Option Addr} {ws : List V} {t : TA} {e : Expr} {p pos : Pos}
theorem qcallC (spA : V → Hp → VK → Prop) (hcl : ∀ pins s σ H, Inv X pins σ H s → CellsAt s.heap H X.stack clos fr ws) (S : CloScope N pn fr scope) (inj : ∀ x y c, clos.lookup x = some c → clos.lookup y = some c → x = y) (lw : ws.length = fr.length)
    (hb : ∀ u, bindArgs (PySem.W.fnX name qual params body scope clos dV kV doc pm an (.ref c) ct) ⟨[u], []⟩ = pure [(pn, u)])
    (hbody : ∀ (A : Around) (outer : List Env) (s : Shared) (H : Hp) (v : V) (Q : VK), Room k (A.deeper (PySem.W.envX qual scope s.heap.objs.size f (.ref c) clos)) → spA v H Q →
      ∃ t, PSs (cxC CX0 X.prog X.w X.K X.mg X.base N qual scope f (.ref c) clos A outer s H E0).nox body t ∧ t { nx := fun _ H' => Q .non H', rt := Q } (some v :: ws.map some) H)
    (hr : Room (k + 1) X.A) (ha : PA X [e] t) (hN : X.N[i]? = some x := by rfl)
    (hv : Vis X.env.scope x := by first | exact Or.inl rfl | exact Or.inr (Or.inl rfl) | exact Or.inr (Or.inr rfl)) (hd : (x == ("__debug__" : Str)) = false := by decide) (hcd : (x == ("__classdict__" : Str)) = false := by decide)
    (he : starEach [e] X.env = (false, eval e X.env) :: starEach [] X.env := by rfl) (hpl : (backTo pos (starEach [] X.env)).any (·.1) = false := by rfl) :
    PE X (.Call (.Name x p) [e] [] pos) (fun σ H Q => σ[i]? = some (some (.ref f)) ∧ H f = some (.ext (phF f (PySem.W.fnX name qual params body scope clos dV kV doc pm an (.ref c) ct))) ∧
      t σ H fun vs H1 => ∃ v, vs = [v] ∧ H1 f = some (.ext (phF f (PySem.W.fnX name qual params body scope clos dV kV doc pm an (.ref c) ct))) ∧ H1 c = some (.ext (phC c qual)) ∧ spA v H1 Q) := by
  intro pins s σ H Q I h
  obtain ⟨h0, hf, h⟩ := h
  refine wpAny_Call_Name_kw (thn (pe_var (pos := p) hN hv hd hcd pins s σ H (fun v H1 => v = .ref f ∧ H1 = H) I ⟨_, h0, rfl, rfl⟩) fun u s1 ⟨v, H1, I1, r, e1, e2⟩ => ?_)
  subst e1 e2
  cases r
  have at_ : ∀ {s : Shared} {H : Hp} {pins : List (Addr × Obj)} {σ : St}, Inv X pins σ H s → H f = some (.ext (phF f (PySem.W.fnX name qual params body scope clos dV kV doc pm an (.ref c) ct))) → s.heap.get? f = some { cls := .type "function", data := .func (PySem.W.fnX name qual params body scope clos dV kV doc pm an (.ref c) ct) } := fun I e => (I.hok f _ e).1
  refine PySem.W.callWith_F ⟨_, _, _, _, at_ I1 hf⟩ (thn (ha pos pins s1 σ H1 _ I1 h) fun us s2 ⟨vs, H2, I2, r, q⟩ => ?_) he hpl
  obtain ⟨v, ev, hf2, hc2, q⟩ := q
  subst ev
  refine ⟨⟨_, _, _, _, at_ I2 hf2⟩, ?_⟩
  obtain ⟨u, rfl, ru⟩ := vals1 r
  obtain ⟨t', ht, hq⟩ := hbody X.A X.stack s2 H2 v Q (hr.deeper _) q
  have hcode : s2.heap.CodeRec (.ref c) qual := (I2.hok c _ hc2).1
  refine wpAny_call (codeAny_mono (run_clo (at_ I2 hf2) hcode S inj (hcl pins s2 σ H2 I2) lw hr I2.env0 (hb u) ru ht hq) fun r s' hq => ?_)
  cases r with
  | error e => exact False.elim hq
  | ok fl =>
    cases fl with
    | ret u => exact I2.after hq
    | next => exact False.elim hq
    | brk => exact False.elim hq
    | cont => exact False.elim hq
end
structure FnOkC (P : Program) (w : World) (K : PySem.W.Frag) (mg : Str → Option Value) (base : Heap) (k : Nat) (f : Addr) (fd : FuncData) (ps : List Str) (Cd : Heap → Hp → List Env → Prop) (sp : Sp) : Prop where
  len : ∀ vs H Q E, sp vs H Q E → vs.length = ps.length
  run : ∀ (A : Around) (outer : List Env) (s : Shared) (H : Hp) (args : Args) (us : List Value) (vs : List V) (Q : VK) (E : XK), Room k A → Env0 P w K mg base A outer s H → Cd s.heap H outer → BindsTo s fd args (ps.zip us) → Vals vs us → sp vs H Q E →
    codeAny (model P w) A (.call (.ref f) args) (CR CX0 outer P w H s Q E) s
theorem Fun.okC {P : Program} {w : World} {K : PySem.W.Frag} {mg : Str → Option Value} {base : Heap} {x qual : Str} {st : Stmt} {f : Addr} {fd : FuncData} {N ps : List Str} {k : Nat} {sp : Sp} {Cd : Heap → Hp → List Env → Prop} (F : Fun K x qual st f fd) (S : FnScope N ps (defScope st)) (len : ∀ vs H Q E, sp vs H Q E → vs.length = ps.length)
    (hbody : ∀ (cdv : Value) (A : Around) (outer : List Env) (s : Shared) (H : Hp) (vs : List V) (Q : VK) (E : XK), Room k (A.deeper (envOfC qual (defScope st) s.heap.objs.size f cdv)) → Cd s.heap H outer → sp vs H Q E →
      ∃ t, PSs (cxOf CX0 P w K mg base N qual (defScope st) f cdv A outer s H E).nox (defBody st) t ∧ t { nx := fun _ H' => Q .non H', rt := Q } (start N vs) H) : FnOkC P w K mg base (k + 1) f fd ps Cd sp := by
  obtain ⟨oc, od, kV, doc, pm, an, cdv, ct, osl, rfl, lk, hcd⟩ := F.ex
  refine ⟨len, fun A outer s H args us vs Q E hr e0 hC hb r hsp => ?_⟩
  have hl := len _ _ _ _ hsp
  have KX : K.In s.heap := e0.mod.kin.keeps fun b o e => (e0.bs b o e).1
  have lim : s.heap.NoLimit := e0.mod.nolimit.keeps fun b o e => (e0.bs b o e).1
  have hkind : ∀ y ∈ ps.zip us, (defScope st).names.lookup y.1 = some .local ∨ ((defScope st).names.lookup y.1 = some .cell ∧ ((cellsFrom (s.heap.objs.size + 1) (defScope st).names []).lookup y.1).isSome = true) := fun ⟨n, v⟩ hy => by
    rcases S.par n (List.of_mem_zip hy).1 with q | q
    · exact .inl q
    · exact .inr ⟨q, PySem.W.cellsFrom_some _ _ _ (.inl q)⟩
  refine codeAny_call_function hr.depth (KX _ _ lk) rfl S.co S.gen rfl (PySem.W.codeRec_of KX hcd) (hb _ _ _ _ ?_)
  refine wpAny_newFunctionEnv_cells S.kind hkind fun env he s1 x => ?_
  subst he
  refine ⟨lim.keeps x.toInCall.keep, codeAny_func ?_⟩
  obtain ⟨t, ht, hq⟩ := hbody cdv A outer s H vs Q E (hr.deeper _) hC hsp
  have I : Inv (cxOf CX0 P w K mg base N qual (defScope st) f cdv A outer s H E) [] (start N vs) H s1 := inv_start S hr.hd e0 hl r x
  refine wpAny_mono (ht.nox [] s1 (start N vs) H _ I hq) (fun fl s' hs => ?_) fun e s' hs => hs
  have fin : ∀ {σ' : St} {H' : Hp} {v : V} {u : Value}, Inv (cxOf CX0 P w K mg base N qual (defScope st) f cdv A outer s H E) [] σ' H' s' → RelV v u → Q v H' → CE outer P w H s Q u s' :=
    fun {σ' H' v u} J rv q => ⟨v, H', J.os, J.bare, J.base, J.hok, rv, q⟩
  cases fl with
  | ret u =>
    obtain ⟨v, σ', H', J, rv, q⟩ := hs
    exact fin J rv q
  | next =>
    obtain ⟨σ', H', J, q⟩ := hs
    exact fin (v := V.non) (u := Value.none) J rfl q
  | brk =>
    obtain ⟨_, _, _, q⟩ := hs
    exact False.elim q
  | cont =>
    obtain ⟨_, _, _, q⟩ := hs
    exact False.elim q
section
variable {X : Cx} {k : Nat} {f : Addr} {fd : FuncData} {x : Str} {ps : List Str} {t : TA} {e : Expr} {es : List Expr} {p pos : Pos}
theorem qcallH (hm : X.mg x = some (.ref f)) (hk : PySem.W.keepIn X.K (.ref f) = true) (hb : Binds X.K fd ps []) (hr : Room k X.A)
    (ha : PA X (e :: es) t) (hg : Gl X x := by rfl) (hdb : (x == ("__debug__" : Str)) = false := by decide) (he : starEach (e :: es) X.env = (false, eval e X.env) :: starEach es X.env := by rfl) (hpl : (backTo pos (starEach es X.env)).any (·.1) = false := by rfl) :
    PE X (.Call (.Name x p) (e :: es) [] pos) (fun σ H Q => ∃ (Cd : Heap → Hp → List Env → Prop) (sp : Sp), FnOkC X.prog X.w X.K X.mg X.base k f fd ps Cd sp ∧ (∀ pins s H, Inv X pins σ H s → Cd s.heap H X.stack) ∧ t σ H fun vs H1 => sp vs H1 Q E0) := by
  intro pins s σ H Q I h
  obtain ⟨Cd, sp, F, hC, h⟩ := h
  refine wpAny_Call_Name_kw (ld_glob I hg hm ?_ hdb)
  refine PySem.W.callWith_K (h₀ := X.base) I.ok.mod.kin hk (thn (ha pos pins s σ H _ I h) fun us s1 ⟨vs, H1, I1, r, q⟩ => ⟨I1.kIn, ?_⟩) he hpl
  have hl : (us ++ []).length = ps.length := by rw [List.append_nil, ← r.length]; exact F.len _ _ _ _ q
  have hbs := hb s1 us I1.kIn hl
  rw [List.append_nil] at hbs
  refine wpAny_call (codeAny_mono (F.run X.A X.stack s1 H1 ⟨us, []⟩ us vs Q E0 hr I1.env0 (hC pins s1 H1 I1) hbs r q) fun r s' hq => ?_)
  cases r with
  | error e => exact False.elim hq
  | ok fl =>
    cases fl with
    | ret u => exact I1.after hq
    | next => exact False.elim hq
    | brk => exact False.elim hq
    | cont => exact False.elim hq
end
theorem Fun.okD {P : Program} {w : World} {K : PySem.W.Frag} {mg : Str → Option Value} {base : Heap} {x qual : Str} {st : Stmt} {f : Addr} {fd : FuncData} {N ps : List Str} {k : Nat} {sp : Sp} (F : Fun K x qual st f fd) (S : FnScope N ps (defScope st)) (len : ∀ vs H Q E, sp vs H Q E → vs.length = ps.length)
    (hbody : ∀ (A : Around) (outer : List Env) (s : Shared) (H : Hp) (vs : List V) (Q : VK) (E : XK), Room k (A.deeper (envOfC qual (defScope st) s.heap.objs.size f fd.code)) → sp vs H Q E →
      ∃ t, PSs (cxOf CX0 P w K mg base N qual (defScope st) f fd.code A outer s H E).nox (defBody st) t ∧ t { nx := fun _ H' => Q .non H', rt := Q } (start N vs) H) : FnOk P w K mg base CX0 (k + 1) f fd ps sp := by
  obtain ⟨oc, od, kV, doc, pm, an, cdv, ct, osl, rfl, lk, hcd⟩ := F.ex
  refine fn_of lk hcd S len fun A outer s H vs Q E hr hsp => ?_
  obtain ⟨t, h, q⟩ := hbody A outer s H vs Q E hr hsp
  exact ⟨t, h.nox, q⟩
theorem CellsAt.inside {X : Cx} {pins : List (Addr × Obj)} {s : Shared} {σ : St} {H : Hp} {clos : List (Str × Addr)} {fr : List Str} {ws : List V} (c : CellsAt X.s_0.heap X.H_0 X.outer clos fr ws) (hx : X.ex = []) (I : Inv X pins σ H s) : CellsAt s.heap H X.stack clos fr ws := by
  have nx : ∀ b, b ∉ X.ex := fun b z => by rw [hx] at z; cases z
  have th : ∀ x a, clos.lookup x = some a → ∃ ob, X.s_0.heap.get? a = some ob := fun x a e => let ⟨_, ob, e1, _⟩ := c.all x a e; ⟨ob, e1⟩
  refine c.keep (fun x a ob e q => I.base.keep a ob q (c.non x a e) (c.out x a e) (nx a)) (fun x a e => ?_) (fun x a e z => ?_)
  · obtain ⟨ob, q⟩ := th x a e
    exact I.base.free a ob q (c.non x a e) (nx a)
  · obtain ⟨ob, q⟩ := th x a e
    rcases List.mem_cons.mp (I.stkSub a z) with y | y
    · have l1 := Heap.lt_size q
      have l2 := I.ok.above
      rw [y] at l1
      exact absurd (Nat.lt_of_lt_of_le l1 l2) (Nat.lt_irrefl _)
    · exact c.out x a e y
theorem CellsAt.own {X : Cx} {pins : List (Addr × Obj)} {s : Shared} {σ : St} {H : Hp} {clos : List (Str × Addr)} {fr : List Str} {ws : List V} (I : Inv X pins σ H s) (hc : ∀ x a, clos.lookup x = some a → X.env.cells.lookup x = some a) (hf : ∀ x, X.fn x = true)
    (hs : ∀ (j : Nat) (x : Str) (v : V), fr[j]? = some x → ws[j]? = some v → ∃ (i : Nat), X.N[i]? = some x ∧ σ[i]? = some (some v) ∧ X.env.scope.names.lookup x = some .cell ∧ ∃ a, clos.lookup x = some a) : CellsAt s.heap H X.stack clos fr ws := by
  refine ⟨fun j x v e1 e2 => ?_, fun x a e => I.cell x a (hc x a e), fun x a e => I.freeC x a (hc x a e), fun x a e z => ?_⟩
  · obtain ⟨i, h1, h2, h3, a, h4⟩ := hs j x v e1 e2
    obtain ⟨m, hn, hl⟩ := I.loc
    obtain ⟨u, r, l⟩ := hl i x v h1 h2 (.inr (.inl h3))
    rcases l with ⟨l, _⟩ | ⟨_, c, e, q⟩
    · have l : X.env.scope.names.lookup x = some .local := l
      rw [h3] at l
      cases l
    · rw [hc x a h4] at e
      cases e
      exact ⟨a, u, h4, q, r⟩
  · rcases List.mem_cons.mp (I.stkSub a z) with y | y
    · exact I.cne x a (hc x a e) y
    · obtain ⟨_, o, ho, _⟩ := I.ok.funs.mem y
      exact absurd (Nat.lt_of_lt_of_le (Heap.lt_size ho) (I.ok.cab x a (hf x) (hc x a e))) (Nat.lt_irrefl _)
end L2
set_option Elab.async false
set_option linter.all false
set_option maxRecDepth 100000
set_option maxHeartbeats 1000000
namespace L2
open PySem PySem.Spec PyProof.Rows
structure OnlyT (ts : List Addr) (H : Hp) : Prop where
  all : ∀ b, H b = none ∨ (∃ o xs, H b = some (.frz o (.lst xs))) ∨ (b ∈ ts ∧ H b = some (.tbl #[]))
  tab : ∀ b ∈ ts, H b = some (.tbl #[])
theorem law_callT {P : Program} {w : World} {K : PySem.W.Frag} {mg mb : Str → Option Value} {k : Nat} {fa a : Addr} {fd : FuncData} {x : Str} {sp : Sp} {s₁ : Shared} {vs : List Value} {ns : List Int} {ts : List Addr}
    (KX : K.In s₁.heap) (hns : s₁.heap.Ns mainGlobals mg) (hb : s₁.heap.Ns builtinsNs mb) (hbb : ∀ x : Str, x ≠ "__name__" → mb x = bootBuiltins x) (hlim : s₁.heap.NoLimit) (hg : s₁.gens = #[]) (hBm : Bm s₁.heap mg)
    (hts : ∀ T ∈ ts, s₁.heap.get? T = some (PySem.W.tabObj #[])) (hct : ∀ T ∈ ts, ∃ c, PySem.W.CodeHd s₁.heap c T) (hkt : ∀ T ∈ ts, K.lookup T = none)
    (ha : s₁.heap.get? a = some { cls := .type "list", data := .seq vs.toArray }) (hi : IntsAre vs ns) (hl : ns.length ≤ sizeLine) (hr : Room k callerA)
    (F : ∀ base : Heap, K.In base → base.Ns mainGlobals mg → Bm base mg → FnOk P w K mg base CX0 k fa fd [x] sp) (hbind : ∀ (s : Shared) (u : Value), BindsTo s fd ⟨[u], []⟩ [(x, u)])
    (hsp : ∀ H : Hp, OnlyT ts H → SqL K H a (ns.map V.int) → sp [.ref a] H (fun v _ => v = .bl true) fun _ _ _ => False) :
    codeAny (model P w) callerA (.call (.ref fa) ⟨[.ref a], []⟩) (fun r s' => r = .ok (.ret (.bool true)) ∧ OldK s₁.heap s'.heap ∧ s'.os = s₁.os ∧ AllBare s'.gens) s₁ := by
  have rv := vals_ints hi
  have lenV := hi.length
  have naT : a ∉ ts := fun z => by
    have e := hts a z
    rw [ha] at e
    cases e
  have core : ∀ H : Hp, OnlyT ts H → SqL K H a (ns.map V.int) → HOk P w H s₁.heap → (∀ b, H b ≠ none → b = a ∨ b ∈ ts) → (H a ≠ none → K.lookup a = none) →
      codeAny (model P w) callerA (.call (.ref fa) ⟨[.ref a], []⟩) (fun r s' => r = .ok (.ret (.bool true)) ∧ OldK s₁.heap s'.heap ∧ s'.os = s₁.os ∧ AllBare s'.gens) s₁ := by
    intro H hO hS hok hA hK
    have base_of : ∀ {b : Addr} {o : Obj}, s₁.heap.get? b = some o → H b = none → (hidT s₁.heap H).get? b = some o := fun e n => hidT_get e n
    have none_of : ∀ {b : Addr} {o : Obj}, s₁.heap.get? b = some o → (∀ its n, o.data ≠ .seq its n) → (∀ vs, o.data ≠ .fields vs) → H b = none := fun {b o} e n1 n2 => by
      cases q : H b with
      | none => rfl
      | some u =>
        rcases hA b (by rw [q]; simp) with z | z
        · subst z
          rw [ha] at e; cases e
          exact absurd rfl (n1 _ _)
        · rw [hts b z] at e; cases e
          exact absurd rfl (n2 _)
    have nsK : ∀ {b : Addr} {m : Str → Option Value}, s₁.heap.Ns b m → (hidT s₁.heap H).Ns b m := fun {b m} ⟨o, es, ep, e, d, r⟩ => ⟨o, es, ep, base_of e (none_of e (fun _ _ z => by rw [d] at z; cases z) fun _ z => by rw [d] at z; cases z), d, r⟩
    have hKb : K.In (hidT s₁.heap H) := fun b o e => base_of (KX b o e) (by
      cases q : H b with
      | none => rfl
      | some u =>
        rcases hA b (by rw [q]; simp) with z | z
        · subst z
          rw [hK (by rw [q]; simp)] at e; cases e
        · rw [hkt b z] at e; cases e)
    have hBb : Bm (hidT s₁.heap H) mg := by
      obtain ⟨bm, o, b1, b2, b3, b4, b5, b6, b7⟩ := hBm
      exact ⟨bm, o, b1, b2, b3, base_of b4 (none_of b4 (fun _ _ z => by rw [b7] at z; cases z) fun _ z => by rw [b7] at z; cases z), b5, b6, b7⟩
    have hM : Mod K mg (hidT s₁.heap H) := ⟨hKb, nsK hns, ⟨mb, nsK hb, hbb⟩, let ⟨mc, h1, h2⟩ := hlim; ⟨mc, nsK h1, h2⟩⟩
    have e0 : Env0 P w K mg (hidT s₁.heap H) callerA [] s₁ H := ⟨rfl, hM, fun b o e => of_hidT e, Nat.le_of_eq (hidT_size _ _), trivial, fun b hb => absurd (show b ∈ ([] : List Addr) from hb) (by simp), hok, .of_eq hg⟩
    refine codeAny_mono ((F _ hKb (nsK hns) hBb).run callerA [] s₁ H ⟨[.ref a], []⟩ [.ref a] [.ref a] _ _ hr e0 (hbind s₁ (.ref a)) (.cons rfl .nil) (hsp H hO hS)) fun r s' h => ?_
    cases r with
    | error e => exact False.elim h
    | ok fl =>
      cases fl with
      | next => exact False.elim h
      | brk => exact False.elim h
      | cont => exact False.elim h
      | ret u =>
        obtain ⟨v, H', os, bare, un, hok', r', q⟩ := h
        have q' : v = .bl true := q
        subst q'
        obtain rfl : u = Value.bool true := r'
        have kept : ∀ b o, s₁.heap.get? b = some o → b ∉ ts → s'.heap.get? b = some o := fun b o e hb => by
          rcases hO.all b with z | ⟨ob, xs, z⟩ | ⟨z, _⟩
          · exact un.keep b o e z (by intro z; exact absurd (show b ∈ ([] : List Addr) from z) (by simp)) (by simp)
          · have z2 := un.frzs b ob _ z
            obtain ⟨e1, _⟩ := hok b _ z
            obtain ⟨e2, _⟩ := hok' b _ z2
            rw [e] at e1; cases e1
            exact e2
          · exact absurd z hb
        have grown : ∀ b, b ∈ ts → ∃ m, s'.heap.get? b = some (PySem.W.tabObj m) := fun b hb => by
          obtain ⟨m, z⟩ := un.tbls b _ (hO.tab b hb)
          exact ⟨_, hok' b _ z⟩
        refine ⟨rfl, ⟨fun b o e => ?_, fun b o e => ?_⟩, os, bare⟩
        · by_cases hb : b ∈ ts
          · obtain ⟨m, z⟩ := grown b hb
            have e2 := hts b hb
            rw [e] at e2
            cases e2
            obtain ⟨c, hc⟩ := hct b hb
            exact .inr (.inl ⟨(hc.tab (hts b hb)).isCodeTable, rfl, #[], m, rfl, by rw [Array.empty_append]; exact z⟩)
          · exact .inl (kept b o e hb)
        · by_cases hb : b ∈ ts
          · obtain ⟨m, z⟩ := grown b hb
            exact ⟨_, z⟩
          · exact ⟨o, kept b o e hb⟩
  cases hk : K.lookup a with
  | some o =>
    have e := KX a o hk
    rw [ha] at e
    cases e
    refine core (fun b => if b ∈ ts then some (.tbl #[]) else none) ⟨fun b => ?_, fun b hb => if_pos hb⟩ (.inr ⟨_, vs.toArray, _, hk, rfl, rfl, rfl, by rw [List.size_toArray, lenV]; exact hl, by simpa using rv⟩) (fun b u z => ?_) (fun b z => ?_) fun z => absurd (if_neg naT) z
    · by_cases hb : b ∈ ts
      · exact .inr (.inr ⟨hb, if_pos hb⟩)
      · exact .inl (if_neg hb)
    · by_cases hb : b ∈ ts
      · have z' := (if_pos hb).symm.trans z
        cases z'
        exact hts b hb
      · have z' := (if_neg hb).symm.trans z
        cases z'
    · by_cases hb : b ∈ ts
      · exact .inr hb
      · exact absurd (if_neg hb) z
  | none =>
    refine core (fun b => if b ∈ ts then some (.tbl #[]) else if b = a then some (.frz { cls := .type "list", data := .seq vs.toArray } (.lst (ns.map V.int))) else none) ⟨fun b => ?_, fun b hb => if_pos hb⟩ (.inl (.inr ⟨{ cls := .type "list", data := .seq vs.toArray }, (if_neg naT).trans (if_pos rfl)⟩)) (fun b u z => ?_) (fun b z => ?_) fun _ => hk
    · by_cases hb : b ∈ ts
      · exact .inr (.inr ⟨hb, if_pos hb⟩)
      · by_cases hb2 : b = a
        · exact .inr (.inl ⟨_, _, (if_neg hb).trans (if_pos hb2)⟩)
        · exact .inl ((if_neg hb).trans (if_neg hb2))
    · by_cases hb : b ∈ ts
      · have z' := (if_pos hb).symm.trans z
        cases z'
        exact hts b hb
      · have z := (if_neg hb).symm.trans z
        by_cases hb2 : b = a
        · have z' := (if_pos hb2).symm.trans z
          cases z'
          subst hb2
          exact ⟨ha, by rw [List.length_map]; exact hl, vs, _, rv, ha⟩
        · have z' := (if_neg hb2).symm.trans z
          cases z'
    · by_cases hb : b ∈ ts
      · exact .inr hb
      · by_cases hb2 : b = a
        · exact .inl hb2
        · exact absurd ((if_neg hb).trans (if_neg hb2)) z
theorem walk_ofT {l : PySem.W.OpenLaw} {n k : Nat} {q : Program} {loose : List Str} {XP : (Str → Option Value) → Heap → Prop} {YP : World → Heap → Prop} {d : DefRec} {K : Params → PySem.W.Frag} {sp : PySem.W.Frag → Sp} {x : Str} {ts : List Addr}
    (hn : l.most = some n) (hn2 : n ≤ sizeLine) (hdf : d.params.defaults = []) (hr : Room k callerA)
    (hY : ∀ (w : World) (h : Heap), YP w h → (K w.params).In h) (hT : ∀ (w : World) (h : Heap), YP w h → ∀ T ∈ ts, h.get? T = some (PySem.W.tabObj #[]))
    (hC : ∀ (w : World), ∀ T ∈ ts, ∃ c, PySem.W.codeHdIn (K w.params) c T = true) (hkt : ∀ (w : World), ∀ T ∈ ts, (K w.params).lookup T = none)
    (F : ∀ (w : World) (mg : Str → Option Value) (fa : Addr) (h : Heap), (K w.params).In h → h.Ns mainGlobals mg → mg d.name = some (.ref fa) →
      ∃ fd : FuncData, (∀ (s : Shared) (u : Value), BindsTo s fd ⟨[u], []⟩ [(x, u)]) ∧
        ∀ base : Heap, (K w.params).In base → base.Ns mainGlobals mg → Bm base mg → FnOk l.prog w (K w.params) mg base CX0 k fa fd [x] (sp (K w.params)))
    (hsp : ∀ (K : PySem.W.Frag) (H : Hp) (a : Addr) (ns : List Int), ns.length ≤ n → OnlyT ts H → SqL K H a (ns.map V.int) → sp K [.ref a] H (fun v _ => v = .bl true) fun _ _ _ => False) :
    PySem.W.WalkO q loose XP YP l.row.toRowW d [] (fun f vs => PySem.call f vs) := by
  refine Att.attach_call hn hdf fun w s₀ s₁ mg mb fa o pm cd doc a vs ns G Y ho hd hcd hmg hobj hints hlen hg => ?_
  have KX := hY w _ Y
  obtain ⟨fd, hb, hF⟩ := F w mg fa _ KX G.T.g hmg
  have hB : Bm s₁.heap mg := by
    obtain ⟨bm, ob, b1, b2, b3, b4, b5, b6⟩ := G.T.bmain
    refine ⟨bm, ob, b1, b2, fun z => ?_, b3, b4, b5, b6⟩
    obtain ⟨o, es, ep, e, hd, _⟩ := G.T.g
    rw [z, e] at b3
    cases b3
    rw [hd] at b6
    cases b6
  exact law_callT KX G.T.g G.T.b G.T.builtins G.T.nolimit hg hB (hT w _ Y) (fun T h => let ⟨c, e⟩ := hC w T h; ⟨c, PySem.W.codeHd_of_K KX e⟩) (hkt w) hobj hints (Nat.le_trans hlen hn2) hr hF hb fun H hO hS => hsp (K w.params) H a ns hlen hO hS
end L2
set_option Elab.async false
set_option linter.all false
set_option maxRecDepth 100000
set_option maxHeartbeats 1000000
namespace Tm
open PySem L2
theorem paired_add {α β : Type} {R : α → β → Prop} : ∀ {xs : List α} {ys : List β} {x : α} {y : β}, Paired R xs ys → R x y → Paired R (xs ++ [x]) (ys ++ [y])
  | _, _, _, _, .nil, h => .cons h .nil
  | _, _, _, _, .cons r t, h => .cons r (paired_add t h)
theorem paired_set {α β : Type} {R : α → β → Prop} {x : α} {y : β} (h : R x y) : ∀ {xs : List α} {ys : List β} (i : Nat), Paired R xs ys → Paired R (xs.set i x) (ys.set i y)
  | _, _, _, .nil => .nil
  | _, _, 0, .cons _ t => .cons h t
  | _, _, i + 1, .cons r t => .cons r (paired_set h i t)
structure Wds (rows most : Int) (H : Hp) (c : Addr) (ws : List Wd) : Prop where
  ex : ∃ vs, H c = some (.lst vs) ∧ Paired (IsW H) ws vs
  ok : ∀ x ∈ ws, WOk rows most x
theorem Wds.nil {rows most : Int} {H : Hp} {c : Addr} (h : H c = some (.lst [])) : Wds rows most H c [] := ⟨⟨[], h, .nil⟩, fun x hx => absurd hx (by simp)⟩
theorem Wds.go {rows most : Int} {H H' : Hp} {c : Addr} {ws : List Wd} (h : Wds rows most H c ws) (t : Tups H H') (e : ∀ o, H c = some o → H' c = some o) : Wds rows most H' c ws := by
  obtain ⟨⟨vs, h1, h2⟩, ok⟩ := h
  exact ⟨⟨vs, e _ h1, Paired.mapP h2 fun _ _ => IsW.tups t⟩, ok⟩
theorem Wds.on {K : PySem.W.Frag} {R : Addr} {rows most : Int} {H H' : Hp} {c : Addr} {ws : List Wd} (h : Wds rows most H c ws) (r : RowAt K H R) (o : On K R H H') (n : c ≠ R) : Wds rows most H' c ws := h.go (On.tups r o) fun _ e => o.at e n
theorem Wds.same {rows most : Int} {H H' : Hp} {c : Addr} {ws : List Wd} (h : Wds rows most H c ws) (s : Same H H') : Wds rows most H' c ws := h.go (Same.tups s) fun _ e => s _ _ e
theorem Wds.lst {rows most : Int} {H : Hp} {c : Addr} {ws : List Wd} (h : Wds rows most H c ws) : ∃ vs, H c = some (.lst vs) ∧ vs.length = ws.length := by
  obtain ⟨⟨vs, h1, h2⟩, _⟩ := h
  exact ⟨vs, h1, (Paired.length h2).symm⟩
theorem Wds.soft {rows most : Int} {H : Hp} {c : Addr} {ws : List Wd} (h : Wds rows most H c ws) : Soft (H c) := by
  obtain ⟨vs, h1, _⟩ := h.lst
  exact soft_lst h1
theorem Wds.add {rows most : Int} {H : Hp} {c : Addr} {ws : List Wd} {vs : List V} {v : V} {x : Wd} (h : Wds rows most H c ws) (e : H c = some (.lst vs)) (i : IsW H x v) (ok : WOk rows most x) : Wds rows most (upd H c (.lst (vs ++ [v]))) c (ws ++ [x]) := by
  obtain ⟨⟨vs', h1, h2⟩, hok⟩ := h
  rw [e] at h1
  cases h1
  have t : Tups H (upd H c (.lst (vs ++ [v]))) := Tups.upd (soft_lst e)
  refine ⟨⟨_, upd_same, paired_add (Paired.mapP h2 fun _ _ => IsW.tups t) (i.tups t)⟩, fun y hy => ?_⟩
  rcases List.mem_append.mp hy with z | z
  · exact hok y z
  · cases List.mem_singleton.mp z
    exact ok
theorem Wds.set {rows most : Int} {H : Hp} {c : Addr} {ws : List Wd} {vs : List V} {v : V} {x : Wd} (h : Wds rows most H c ws) (e : H c = some (.lst vs)) (j : Nat) (i : IsW H x v) (ok : WOk rows most x) : Wds rows most (upd H c (.lst (vs.set j v))) c (ws.set j x) := by
  obtain ⟨⟨vs', h1, h2⟩, hok⟩ := h
  rw [e] at h1
  cases h1
  have t : Tups H (upd H c (.lst (vs.set j v))) := Tups.upd (soft_lst e)
  refine ⟨⟨_, upd_same, paired_set (i.tups t) j (Paired.mapP h2 fun _ _ => IsW.tups t)⟩, fun y hy => ?_⟩
  rcases List.mem_or_eq_of_mem_set hy with z | z
  · exact hok y z
  · subst z
    exact ok
theorem Wds.at {rows most : Int} {H : Hp} {c : Addr} {ws : List Wd} (h : Wds rows most H c ws) {j : Int} (h0 : 0 ≤ j) (h1 : j < ws.length) : ∃ vs v x, H c = some (.lst vs) ∧ atI vs j = some v ∧ ws[j.toNat]? = some x ∧ IsW H x v ∧ WOk rows most x := by
  obtain ⟨⟨vs, e, r⟩, hok⟩ := h
  obtain ⟨x, v, g1, g2, g3⟩ := Paired.get2 (i := j.toNat) r (by omega)
  refine ⟨vs, v, x, e, ?_, g1, g3, hok x (List.mem_of_getElem? g1)⟩
  have q : j = ((j.toNat : Nat) : Int) := by omega
  rw [q]
  exact atI_nat g2
theorem ixN_ok {n : Nat} {j : Int} (h0 : 0 ≤ j) (h1 : j < n) : ixN n j = some j.toNat := by
  unfold ixN
  rw [if_pos h0, if_pos h1]
structure Gro (T : Addr) (pos : Pos) (qual : Str) (H H' : Hp) : Prop where
  keep : ∀ b o, b ≠ T → H b = some o → H' b = some o
  tb : TblOk pos qual H' T
theorem _root_.L2.TblOk.tbl {pos : Pos} {qual : Str} {H : Hp} {T : Addr} (h : TblOk pos qual H T) : ∃ ps, H T = some (.tbl ps) := by
  rcases h with h | ⟨c, h, _⟩
  · exact ⟨_, h⟩
  · exact ⟨_, h⟩
theorem _root_.L2.TblOk.same {pos : Pos} {qual : Str} {H H' : Hp} {T : Addr} (h : TblOk pos qual H T) (s : Same H H') : TblOk pos qual H' T := by
  rcases h with h | ⟨c, h, hc⟩
  · exact .inl (s _ _ h)
  · exact .inr ⟨c, s _ _ h, s _ _ hc⟩
theorem _root_.L2.TblOk.on {K : PySem.W.Frag} {R : Addr} {pos : Pos} {qual : Str} {H H' : Hp} {T : Addr} (h : TblOk pos qual H T) (r : RowAt K H R) (o : On K R H H') : TblOk pos qual H' T := by
  obtain ⟨xs, e⟩ := r.lst
  have n : ∀ {b : Addr} {u : HO}, H b = some u → (∀ xs, u ≠ .lst xs) → b ≠ R := fun {b u} q z y => by
    rw [y, e] at q
    exact z _ (Option.some.inj q).symm
  rcases h with h | ⟨c, h, hc⟩
  · exact .inl (o.at h (n h fun _ z => by cases z))
  · exact .inr ⟨c, o.at h (n h fun _ z => by cases z), o.at hc (n hc fun _ z => by cases z)⟩
theorem _root_.L2.TblOk.ne {pos : Pos} {qual : Str} {H : Hp} {T b : Addr} {o : HO} (h : TblOk pos qual H T) (e : H b = some o) (z : ∀ ps, o ≠ .tbl ps) : b ≠ T := fun q => by
  obtain ⟨ps, t⟩ := h.tbl
  rw [q, t] at e
  exact z _ (Option.some.inj e).symm
theorem Gro.tups {T : Addr} {pos : Pos} {qual : Str} {H H' : Hp} (g : Gro T pos qual H H') (t : TblOk pos qual H T) : Tups H H' := fun p xs e => g.keep _ _ (t.ne e fun _ z => by cases z) e
theorem Gro.row {K : PySem.W.Frag} {R T : Addr} {pos : Pos} {qual : Str} {H H' : Hp} (g : Gro T pos qual H H') (t : TblOk pos qual H T) (r : RowAt K H R) : RowAt K H' R := by
  obtain ⟨a, ns, i, s, c, hR, f, hl, hi⟩ := r
  refine ⟨a, ns, i, s, c, g.keep _ _ (t.ne hR fun _ z => by cases z) hR, ?_, hl, hi⟩
  rcases f with ⟨ob, h⟩ | h
  · exact .inl ⟨ob, g.keep _ _ (t.ne h fun _ z => by cases z) h⟩
  · exact .inr h
theorem Gro.lst {T : Addr} {pos : Pos} {qual : Str} {H H' : Hp} (g : Gro T pos qual H H') (t : TblOk pos qual H T) {l : Addr} {xs : List V} (h : H l = some (.lst xs)) : H' l = some (.lst xs) := g.keep _ _ (t.ne h fun _ z => by cases z) h
theorem Gro.wds {T : Addr} {pos : Pos} {qual : Str} {H H' : Hp} (g : Gro T pos qual H H') (t : TblOk pos qual H T) {rows most : Int} {c : Addr} {ws : List Wd} (h : Wds rows most H c ws) : Wds rows most H' c ws := by
  obtain ⟨vs, e, _⟩ := h.lst
  exact h.go (g.tups t) fun o q => g.keep _ _ (t.ne e fun _ z => by cases z) q
theorem Gro.then {T : Addr} {pos : Pos} {qual : Str} {H H1 H2 : Hp} (g : Gro T pos qual H H1) (s : Same H1 H2) : Gro T pos qual H H2 := ⟨fun b o n e => s _ _ (g.keep b o n e), g.tb.same s⟩
end Tm
set_option Elab.async false
set_option linter.all false
set_option maxRecDepth 100000
set_option maxHeartbeats 1000000
set_option pp.maxSteps 600
set_option pp.deepTerms false
namespace Tm
open PySem L2
structure Gr (mg : Str → Option Value) : Prop where
  CELLS : ∃ t, mg "CELLS" = some (.int 64 t)
  BOXES : ∃ t, mg "BOXES" = some (.int 8 t)
  MOST_ROOMS : ∃ t, mg "MOST_ROOMS" = some (.int 12 t)
  ROOM_CELLS : ∃ t, mg "ROOM_CELLS" = some (.int 4 t)
def spRooms : Sp := fun vs H Q _ => ∃ n : Int, vs = [.int n] ∧ 0 ≤ n ∧ n ≤ 12 ∧ Q .non H
def spKept : Sp := fun vs H Q _ => ∃ n : Int, vs = [.int n] ∧ 0 ≤ n ∧ n ≤ 12 ∧ Q (.int (64 - 4 * n)) H
abbrev s_check_rooms : Stmt := top 25
abbrev N_check_rooms : List Str := ["rooms"]
abbrev P_check_rooms : List Str := ["rooms"]
theorem sc_check_rooms : FnScope N_check_rooms P_check_rooms (defScope s_check_rooms) := ⟨rfl, rfl, rfl, by decide +kernel, rfl, by decide +kernel, by decide +kernel⟩
abbrev s_kept_cells : Stmt := top 26
abbrev N_kept_cells : List Str := ["rooms"]
abbrev P_kept_cells : List Str := ["rooms"]
theorem sc_kept_cells : FnScope N_kept_cells P_kept_cells (defScope s_kept_cells) := ⟨rfl, rfl, rfl, by decide +kernel, rfl, by decide +kernel, by decide +kernel⟩
abbrev s_check_list : Stmt := top 27
abbrev N_check_list : List Str := ["words", "many", "first", "allowed", "at", "word"]
abbrev P_check_list : List Str := ["words", "many", "first", "allowed"]
theorem sc_check_list : FnScope N_check_list P_check_list (defScope s_check_list) := ⟨rfl, rfl, rfl, by decide +kernel, rfl, by decide +kernel, by decide +kernel⟩
abbrev s_check_words : Stmt := top 28
abbrev N_check_words : List Str := ["rows", "rooms", "cells", "boxes", "allowed", "many"]
abbrev P_check_words : List Str := ["rows", "rooms", "cells", "boxes"]
theorem sc_check_words : FnScope N_check_words P_check_words (defScope s_check_words) := ⟨rfl, rfl, rfl, by decide +kernel, rfl, by decide +kernel, by decide +kernel⟩
abbrev s_allowed : Stmt := (defBody s_check_words).getD 2 (.Pass ⟨0, 0, 0, 0⟩)
def posOf : Stmt → Pos
  | .FunctionDef _ _ _ _ _ _ _ _ _ p => p
  | _ => ⟨0, 0, 0, 0⟩
abbrev posA : Pos := posOf s_allowed
abbrev N_allowed : List Str := ["word", "rows", "many"]
def qA : Str := Str.ofString "check_words" ++ Str.ofString ".<locals>." ++ Str.ofString "allowed"
theorem sc_allowed : CloScope N_allowed "word" ["rows", "many"] (defScope s_allowed) := ⟨rfl, rfl, rfl, rfl, rfl, (by decide +kernel), (by decide +kernel), fun x h => by
  have q := PySem.mem_of_lookup h
  have q : (x, NameKind.free) ∈ [(Str.ofString "word", NameKind.local), (Str.ofString "many", NameKind.free), (Str.ofString "rows", NameKind.free), (Str.ofString "is_word", NameKind.globalImplicit)] := q
  simp at q
  rcases q with q | q
  · rw [q]; simp
  · rw [q]; simp⟩
def closA (a1 a2 : Addr) : List (Str × Addr) := [("rows", a1), ("many", a2)]
theorem closA_rows (a1 a2 : Addr) : (closA a1 a2).lookup (Str.ofString "rows") = some a1 := by rfl
theorem closA_many (a1 a2 : Addr) : (closA a1 a2).lookup (Str.ofString "many") = some a2 := by rfl
theorem closA_some {a1 a2 a : Addr} {x : Str} (h : (closA a1 a2).lookup x = some a) : (x = "rows" ∧ a = a1) ∨ (x = "many" ∧ a = a2) := by
  unfold closA at h
  by_cases c1 : x = Str.ofString "rows"
  · subst c1
    rw [List.lookup_cons_self] at h
    cases h
    exact .inl ⟨rfl, rfl⟩
  · rw [List.lookup_cons, beq_eq_false_iff_ne.mpr c1] at h
    by_cases c2 : x = Str.ofString "many"
    · subst c2
      have h : ([(Str.ofString "many", a2)] : List (Str × Addr)).lookup (Str.ofString "many") = some a := h
      rw [List.lookup_cons_self] at h
      cases h
      exact .inr ⟨rfl, rfl⟩
    · have h : ([(Str.ofString "many", a2)] : List (Str × Addr)).lookup x = some a := h
      rw [List.lookup_cons, beq_eq_false_iff_ne.mpr c2] at h
      cases h
theorem closA_inj {a1 a2 : Addr} (n : a1 ≠ a2) : ∀ x y c, (closA a1 a2).lookup x = some c → (closA a1 a2).lookup y = some c → x = y := fun x y c h1 h2 => by
  rcases closA_some h1 with ⟨e1, e2⟩ | ⟨e1, e2⟩ <;> rcases closA_some h2 with ⟨e3, e4⟩ | ⟨e3, e4⟩
  · rw [e1, e3]
  · exact absurd (e2.symm.trans e4) n
  · exact absurd (e4.symm.trans e2) n
  · rw [e1, e3]
abbrev fdA (a1 a2 : Addr) (doc pm : Value) (c : Addr) (ctv : Value) : FuncData := PySem.W.fnX "allowed" qA (defArgs s_allowed) (defBody s_allowed) (defScope s_allowed) (closA a1 a2) .none .none doc pm none (.ref c) ctv
def spListW (rows most : Int) (a1 a2 f c : Addr) (doc pm ctv : Value) : Sp := fun vs H Q _ => ∃ (l : Addr) (n first : Int) (xs : List Wd), vs = [.ref l, .int n, .int first, .ref f] ∧ H f = some (.ext (phF f (fdA a1 a2 doc pm c ctv))) ∧ H c = some (.ext (phC c qA)) ∧ Wds rows most H l xs ∧ n = xs.length ∧ ∀ H', Same H H' → Q .non H'
def spAllowed (rows most : Int) : V → Hp → VK → Prop := fun v H Q => ∃ x, IsW H x v ∧ WOk rows most x ∧ ∀ H', Same H H' → Q (.bl true) H'
def spCheckW (T : Addr) : Sp := fun vs H Q _ => ∃ (rows rooms : Int) (c b : Addr) (cs bs : List Wd), vs = [.int rows, .int rooms, .ref c, .ref b] ∧ 0 ≤ rooms ∧ rooms ≤ 12 ∧ TblOk posA qA H T ∧ Wds rows (64 - 4 * rooms) H c cs ∧ (cs.length : Int) = 64 - 4 * rooms ∧ Wds rows (64 - 4 * rooms) H b bs ∧ bs.length = 8 ∧ ∀ H', Gro T posA qA H H' → Q .non H'
section
variable {P : Program} {w : World} {K : PySem.W.Frag} {mg : Str → Option Value} {base : Heap}
theorem ok_check_rooms {f : Addr} {fd : FuncData} (F : Fun K "check_rooms" "check_rooms" s_check_rooms f fd) (G : Gr mg) (D_is_whole : Df P w K mg base 1 "is_whole" P_is_whole [] spWhole) : FnOk P w K mg base CX0 2 f fd P_check_rooms spRooms := by
  have sc := sc_check_rooms
  refine F.ok sc (fun vs H Q E h => ?_) (fun cdv A outer s H vs Q E hr h => ?_)
  · obtain ⟨n, rfl, _⟩ := h
    rfl
  obtain ⟨n, rfl, n0, n1, k⟩ := h
  refine ⟨_, ((pss_one (ps_if (pt_not (pt_val (qcall D_is_whole (by first | exact hr | exact hr.mono (by omega)) (pa_cons (qv 0) (pa_cons pe_int (pa_cons (pe_globI G.MOST_ROOMS) pa_nil))))))
  pss_never
  pss_nil)) : PSs _ [_] _), ?_⟩
  refine ⟨.int n, 0, 12, rfl, trivial, _, rfl, ?_⟩
  have e : wholeB (.int n) 0 12 = true := by
    show (decide (0 ≤ n) && decide (n ≤ 12)) = true
    rw [decide_eq_true n0, decide_eq_true n1]
    rfl
  rw [e]
  exact iteF k
theorem ok_kept {f : Addr} {fd : FuncData} (F : Fun K "kept_cells" "kept_cells" s_kept_cells f fd) (G : Gr mg) : FnOk P w K mg base CX0 1 f fd P_kept_cells spKept := by
  have sc := sc_kept_cells
  refine F.ok sc (fun vs H Q E h => ?_) (fun cdv A outer s H vs Q E hr h => ?_)
  · obtain ⟨n, rfl, _⟩ := h
    rfl
  obtain ⟨n, rfl, n0, n1, k⟩ := h
  refine ⟨_, ((pss_one (ps_ret (pe_op oq_sub (pe_globI G.CELLS) (pe_op oq_mul (pe_globI G.ROOM_CELLS) (qv 0))))) : PSs _ [_] _), ?_⟩
  exact ⟨.inl ⟨by decide, by decide⟩, k⟩
theorem ok_check_listW {fL : Addr} {fdL : FuncData} (F : Fun K "check_list" "check_list" s_check_list fL fdL) (T : Tx mg) (D_is_word : Df P w K mg base 5 "is_word" P_is_word [] spIsWord) (rows most : Int) {a1 a2 f c : Addr} {doc pm ctv : Value} (na : a1 ≠ a2) :
    FnOkC P w K mg base 7 fL fdL P_check_list (fun h H outer => CellsAt h H outer (closA a1 a2) ["rows", "many"] [.int rows, .int most]) (spListW rows most a1 a2 f c doc pm ctv) := by
  have sc := sc_check_list
  refine F.okC sc (fun vs H Q E h => ?_) (fun cdv A outer s H vs Q E hr hC h => ?_)
  · obtain ⟨l, n, first, xs, rfl, _⟩ := h
    rfl
  obtain ⟨l, n, first, xs, rfl, hf, hc, ⟨⟨vs, hl, rw'⟩, okx⟩, en, k⟩ := h
  have hu := hu_of hr
  have hu64 := hr.units
  have inj := closA_inj na
  have hcl : ∀ pins s' σ H', Inv (cxOf CX0 P w K mg base N_check_list "check_list" (defScope s_check_list) fL cdv A outer s H E).nox pins σ H' s' → CellsAt s'.heap H' (cxOf CX0 P w K mg base N_check_list "check_list" (defScope s_check_list) fL cdv A outer s H E).nox.stack (closA a1 a2) ["rows", "many"] [.int rows, .int most] := fun pins s' σ H' I => CellsAt.inside hC rfl I
  have hbA : ∀ (A' : Around) (outer' : List Env) (s' : Shared) (H' : Hp) (v : V) (Q' : VK), Room 5 (A'.deeper (PySem.W.envX qA (defScope s_allowed) s'.heap.objs.size f (.ref c) (closA a1 a2))) → spAllowed rows most v H' Q' →
      ∃ t, PSs (cxC CX0 P w K mg base N_allowed qA (defScope s_allowed) f (.ref c) (closA a1 a2) A' outer' s' H' E0).nox (defBody s_allowed) t ∧ t { nx := fun _ H' => Q' .non H', rt := Q' } (some v :: [V.int rows, V.int most].map some) H' := by
    intro A' outer' s' H' v Q' hr' h'
    obtain ⟨x, ix, ok, k'⟩ := h'
    refine ⟨_, (pss_one (ps_ret (qcall D_is_word hr' (pa_cons (qv 0) (pa_cons (qv 1) (pa_cons (qv 2) pa_nil))))) : PSs _ [_] _), ?_⟩
    exact ⟨v, x, rows, most, rfl, ix, ok, k'⟩
  refine ⟨_, ((pss_cons (ps_if (pt_not (pt_val (qisi (isi_list _) T.isinstance T.list (qv 0))))
  pss_never
  pss_nil)
  (pss_cons (ps_for PassesOwn.never rfl ((pi_enum2 false) (by rfl) T.enumerate (pa_cons (qv 0) pa_nil)) (pg_tup (by rfl) (pgs_cons (pg_name (i := 4) sc.nd rfl (by first | exact Or.inl rfl | exact Or.inr rfl)) (pgs_cons (pg_name (i := 5) sc.nd rfl (by first | exact Or.inl rfl | exact Or.inr rfl)) pgs_nil)))
  (pss_one (ps_if (PW.pt (pw_or (pt_cmpR (oq_eq K hu64) (qv 4) (qv 1) (nomark _)) (pw_or1 (pt_not (pt_val (qcallC (i := 3) (name := "allowed") (params := defArgs s_allowed) (dV := .none) (kV := .none) (doc := doc) (pm := pm) (an := none) (ct := ctv) (spAllowed rows most) hcl sc_allowed inj rfl (fun u => rfl) hbA hr (pa_cons (qv 5) pa_nil)))))))
  pss_never
  pss_nil)))
  (pss_one (ps_if (pt_cmpR oq_lt (pe_callB (cq_len K) (by rfl) T.len (by decide +kernel) (pa_cons (qv 0) pa_nil)) (qv 1) (nomark _))
  pss_never
  pss_nil)))) : PSs _ (_ :: _) _), ?_⟩
  refine .inr ⟨_, hl, _, rfl, iteF ?_⟩
  refine ⟨_, _, rfl, SqL.of hl, ?_⟩
  have lm : vs.length = xs.length := (Paired.length rw').symm
  refine for_by (n := vs.length) (fun i σ H2 => Same H H2 ∧ ∃ a b, σ = [some (.ref l), some (.int n), some (.int first), some (.ref f), a, b]) ⟨Same.refl H, _, _, rfl⟩ ?_ ?_ ?_ ?_
  · rintro i σ H2 hi ⟨s2, _⟩
    exact ⟨_, _, SqL.of (s2 _ _ hl), List.getElem?_eq_getElem hi⟩
  · rintro σ H2 ⟨s2, _⟩
    exact ⟨_, SqL.of (s2 _ _ hl), rfl⟩
  · rintro i σ H2 v H2' hi ⟨s2, a, b, rfl⟩ ⟨T', y, rfl, hT, rfl, hy⟩
    have hy := hy _ (SqL.of (s2 _ _ hl))
    have st := same_new hT (.tup [.int (i : Nat), y])
    refine ⟨_, _, rfl, SqT.of upd_same, rfl, _, _, rfl, _, _, rfl, rfl, ?_⟩
    have i64 : decide (V.int (i : Nat) = V.int n) = false := decide_eq_false fun z => by
      have z := V.int.inj z
      omega
    refine ⟨rfl, _, rfl, iteF' i64 ?_⟩
    obtain ⟨x, y', g1, g2, g3⟩ := Paired.get2 (i := i) rw' (by omega)
    rw [hy] at g2
    cases g2
    have s3 := s2.trans st
    refine ⟨rfl, s3 _ _ hf, y, rfl, s3 _ _ hf, s3 _ _ hc, x, g3.tups (Same.tups s3), okx x (List.mem_of_getElem? g1), fun H4 s4 => ⟨_, rfl, iteF ?_⟩⟩
    exact ⟨s3.trans s4, _, _, rfl⟩
  · rintro σ H2 ⟨s2, a, b, rfl⟩
    refine .inl ⟨_, SqL.of (s2 _ _ hl), ?_⟩
    refine ⟨_, rfl, iteF' (decide_eq_false ?_) (k H2 s2)⟩
    omega
theorem ok_check_words {f fL c T : Addr} {fd fdL : FuncData} (F : Fun K "check_words" "check_words" s_check_words f fd) (hcode : fd.code = .ref c) (hC : PySem.W.codeHdIn K c T = true) (B : Bm base mg) (G : Gr mg) (FL : ∀ (rows most : Int) (a1 a2 f c : Addr) (doc pm ctv : Value), a1 ≠ a2 →
      FnOkC P w K mg base 7 fL fdL P_check_list (fun h H outer => CellsAt h H outer (closA a1 a2) ["rows", "many"] [.int rows, .int most]) (spListW rows most a1 a2 f c doc pm ctv)) (mL : mg "check_list" = some (.ref fL)) (kL : PySem.W.keepIn K (.ref fL) = true) (bL : Binds K fdL P_check_list [])
    (D_check_rooms : Df P w K mg base 2 "check_rooms" P_check_rooms [] spRooms) (D_kept_cells : Df P w K mg base 1 "kept_cells" P_kept_cells [] spKept) : FnOk P w K mg base CX0 8 f fd P_check_words (spCheckW T) := by
  have sc := sc_check_words
  refine F.okD sc (fun vs H Q E h => ?_) (fun A outer s H vs Q E hr h => ?_)
  · obtain ⟨rows, rooms, c, b, cs, bs, rfl, _⟩ := h
    rfl
  obtain ⟨rows, rooms, lc, lb, cs, bs, rfl, r0, r1, tb, wc, nc, wb, nb, k⟩ := h
  have hu := hu_of hr
  have hu64 := hr.units
  refine ⟨_, ((pss_cons (ps_expr (qcall D_check_rooms (by first | exact hr | exact hr.mono (by omega)) (pa_cons (qv 1) pa_nil)))
  (pss_cons (ps_set (i := 5) sc.nd rfl (by first | exact Or.inl rfl | exact Or.inr rfl) (qcall D_kept_cells (by first | exact hr | exact hr.mono (by omega)) (pa_cons (qv 1) pa_nil)))
  (pss_cons (ps_def (i := 4) (clos := closA (s.heap.objs.size + 1) (s.heap.objs.size + 2)) B hcode hC (by rfl) sc.nd rfl rfl rfl rfl rfl)
  (pss_cons (ps_expr (qcallH mL kL bL (by first | exact hr | exact hr.mono (by omega)) (pa_cons (qv 2) (pa_cons (qv 5) (pa_cons pe_int (pa_cons (qv 4) pa_nil))))))
  (pss_one (ps_expr (qcallH mL kL bL (by first | exact hr | exact hr.mono (by omega)) (pa_cons (qv 3) (pa_cons (pe_globI G.BOXES) (pa_cons (qv 5) (pa_cons (qv 4) pa_nil))))))))))) : PSs _ (_ :: _) _), ?_⟩
  refine ⟨rooms, rfl, r0, r1, ?_⟩
  refine ⟨rooms, rfl, r0, r1, ?_⟩
  refine ⟨tb, fun f' c' doc pm ctv H1 nf keep tb1 hf hc => ?_⟩
  have g1 : Gro T posA qA H H1 := ⟨keep, tb1⟩
  have na : s.heap.objs.size + 1 ≠ s.heap.objs.size + 2 := by omega
  have own : ∀ pins s' H', Inv (cxOf CX0 P w K mg base N_check_words "check_words" (defScope s_check_words) f fd.code A outer s H E).nox pins [some (.int rows), some (.int rooms), some (.ref lc), some (.ref lb), some (.ref f'), some (.int (64 - 4 * rooms))] H' s' →
      CellsAt s'.heap H' (cxOf CX0 P w K mg base N_check_words "check_words" (defScope s_check_words) f fd.code A outer s H E).nox.stack (closA (s.heap.objs.size + 1) (s.heap.objs.size + 2)) ["rows", "many"] [.int rows, .int (64 - 4 * rooms)] := fun pins s' H' I => by
    refine CellsAt.own I (fun x a h => ?_) (fun x => rfl) fun j x v e1 e2 => ?_
    · rcases closA_some h with ⟨rfl, rfl⟩ | ⟨rfl, rfl⟩
      · rfl
      · rfl
    · match j, e1, e2 with
      | 0, e1, e2 =>
        cases e1
        cases e2
        exact ⟨0, rfl, rfl, rfl, _, closA_rows _ _⟩
      | 1, e1, e2 =>
        cases e1
        cases e2
        exact ⟨5, rfl, rfl, rfl, _, closA_many _ _⟩
      | j + 2, e1, _ => cases e1
  refine ⟨_, _, FL rows (64 - 4 * rooms) _ _ f' c' doc pm ctv na, own, ?_⟩
  refine ⟨lc, _, _, cs, rfl, hf, hc, g1.wds tb wc, by omega, fun H2 s2 => ?_⟩
  refine ⟨_, _, FL rows (64 - 4 * rooms) _ _ f' c' doc pm ctv na, own, ?_⟩
  refine ⟨lb, _, _, bs, rfl, s2 _ _ hf, s2 _ _ hc, (g1.then s2).wds tb wb, (by rw [nb]; rfl), fun H3 s3 => ?_⟩
  exact k H3 ((g1.then s2).then s3)
end
end Tm
set_option Elab.async false
set_option linter.all false
set_option maxRecDepth 100000
set_option maxHeartbeats 1000000
namespace L2
open PySem PySem.Spec PyProof.Rows
section
variable {X : Cx}
theorem cr_set0 : CallR X (.type "set") (fun xs H Q => xs = [] ∧ ∀ p, H p = none → Q (.ref p) (upd H p (.set (fun _ => false) 0))) := by
  intro pins s σ H xs us Q I r h
  obtain ⟨rfl, h⟩ := h
  cases r
  refine call_set_0 fun led => ?_
  have hf : H s.heap.objs.size = none := I.hok.fresh (Nat.le_refl _)
  refine ⟨.ref s.heap.objs.size, _, I.laid (t' := s.toks) (o := .set (fun _ => false) 0) (fun b u e => Heap.get?_push_of_some _ e) (Nat.le_refl _) ?_, rfl, h _ hf⟩
  exact ((intSetOf_fresh led).kind X.prog X.w).setOf (Heap.get?_push_size _ rfl) (by decide)
def rSAdd : V → List V → Hp → VK → Prop := fun x vs H Q => ∃ (a : Addr) (S : Int → Bool) (n : Nat) (k : Int), x = .ref a ∧ vs = [.int k] ∧ H a = some (.set S n) ∧ n + 1 < 4096 ∧ Q .non (upd H a (.set (fun k' => S k' || decide (k' = k)) (if S k then n else n + 1)))
theorem mt_sadd : MtM X "set.add" rSAdd := by
  intro pins s σ H x vs v us Q I rx rv h
  obtain ⟨a, S, n, k, rfl, rfl, hH, hn, q⟩ := h
  cases rx
  obtain ⟨u, rfl, ru⟩ := rv.one
  obtain ⟨t, rfl⟩ := ru
  have hS : s.heap.SetOf (intKind X.prog X.w) a S n := I.hok a _ hH
  refine call_set_add (knd := intKind X.prog X.w) (k := k) (by simp [intKind, Value.isInt]) rfl hS hn fun h' sb hS' => ?_
  refine ⟨.non, _, I.write (x := a) (e := a) (o := .set (fun k' => S k' || decide (k' = k)) (if S k then n else n + 1)) (t' := s.toks + 1) (by rw [hH]; exact True.intro) (.inl rfl) (fun b u hb e => sb.extBut _ _ hb e) ?_ hS', rfl, q⟩
  obtain ⟨o, _, _, _, e, _⟩ := hS'
  exact ⟨o, e⟩
theorem op_ninS : OpR X (compareOp .NotIn) (fun x y H Q => ∃ (k : Int) (a : Addr) (S : Int → Bool) (n : Nat), x = .int k ∧ y = .ref a ∧ H a = some (.set S n) ∧ Q (.bl (!S k)) H) := by
  intro pins s σ H x y v u Q I rx ry h
  obtain ⟨k, a, S, n, rfl, rfl, hH, q⟩ := h
  obtain ⟨t, rfl⟩ := rx
  cases ry
  have hS : s.heap.SetOf (intKind X.prog X.w) a S n := I.hok a _ hH
  exact wpAny_notInSet_of (knd := intKind X.prog X.w) (k := k) (by simp [intKind, Value.isInt]) rfl hS ⟨.bl _, H, I.tok _, rfl, q⟩
end
end L2
namespace L2
open PySem PySem.Spec PyProof.Rows
section
variable {X : Cx}
theorem op_catT0 : OpR X (binaryOp .Add) (fun x y H Q => ∃ a b ys, x = .ref a ∧ y = .ref b ∧ SqT X.K H a [] ∧ SqT X.K H b ys ∧ Q (.ref b) H) := by
  intro pins s σ H x y v u Q I rx ry h
  obtain ⟨a, b, ys, rfl, rfl, ha, hb, q⟩ := h
  cases rx
  cases ry
  obtain ⟨its, r1, p1, _⟩ := I.tuple ha
  obtain ⟨its2, r2, p2, _⟩ := I.tuple hb
  cases r1
  obtain ⟨⟨cls, dd, data, sl⟩, ho, hc, n, hd⟩ := id p1
  obtain ⟨⟨cls2, dd2, data2, sl2⟩, ho2, hc2, n2, hd2⟩ := id p2
  simp only at hc hd hc2 hd2
  subst hc hd hc2 hd2
  exact concat_meets ⟨_, ho, rfl⟩ ⟨_, ho2, rfl⟩ noFill_tuple_add seq_tuple_add PySem.F.slot_tuple_add PySem.F.entry_tuple_add (PySem.F.args_tuple_add_2 _ _)
    (tuple_addW0 a b _ _ n n2 dd dd2 sl sl2 (by simp)) ⟨ho, ho2, .ref b, H, I, rfl, q⟩
end
end L2
set_option Elab.async false
set_option linter.all false
set_option maxRecDepth 100000
set_option maxHeartbeats 1000000
namespace L2
open PySem PySem.Spec PyProof.Rows
section
variable {X : Cx}
theorem cr_range2 : CallR X (.type "range") (fun xs H Q => ∃ i j : Int, xs = [.int i, .int j] ∧ ∀ p, H p = none → Q (.ref p) (upd H p (.rng i j))) := by
  intro pins s σ H xs us Q I r h
  obtain ⟨i, j, rfl, h⟩ := h
  cases r with
  | cons r1 r2 =>
    cases r2 with
    | cons r3 r4 =>
      cases r4
      obtain ⟨t, rfl⟩ := r1
      obtain ⟨t', rfl⟩ := r3
      refine call_range_2 ⟨.ref s.heap.objs.size, _, I.laid (t' := s.toks + 1) (o := .rng i j) (fun b u e => Heap.get?_push_of_some _ e) (Nat.le_refl _) ⟨_, _, _, Heap.get?_push_size _ rfl⟩, rfl, h _ (I.hok.fresh (Nat.le_refl _))⟩
def upL (lo : Int) (n : Nat) : List Int := (List.range n).map fun (k : Nat) => lo + (k : Int)
theorem cr_list_rng (hc : X.calm = true) : CallR X (.type "list") (fun xs H Q => ∃ (p : Addr) (lo hi : Int), xs = [.ref p] ∧ H p = some (.rng lo hi) ∧ (-1000000 ≤ lo ∧ lo ≤ 1000000 ∧ -1000000 ≤ hi ∧ hi ≤ 1000000) ∧ ∀ l, H l = none → Q (.ref l) (upd H l (.lst ((upL lo (hi - lo).toNat).map V.int)))) := by
  intro pins s σ H xs us Q I r h
  obtain ⟨p, lo, hi, rfl, hp, ⟨b1, b2, b3, b4⟩, h⟩ := h
  obtain ⟨u, rfl, rx⟩ := vals1 r
  cases rx
  obtain ⟨t, t', t'', e⟩ := I.hok p _ hp
  have hn : Builtin.Range.rangeSize lo hi 1 = (((hi - lo).toNat : Nat) : Int) := by
    rw [rangeSize_one]
    split <;> omega
  have hsz : (hi - lo).toNat ≤ 2 ^ 24 := by omega
  refine call_list_range (n := (hi - lo).toNat) (I.ok.hd hc) e (small_one (by omega) (by omega) (by omega) (by omega)) hn hsz fun h' tk acc c' hk hS hacc => ?_
  refine ⟨.ref s.heap.objs.size, _, I.laid (t' := tk) (o := .lst ((upL lo (hi - lo).toNat).map V.int)) (fun b o q => hk b o q) (Nat.le_refl _) ?_, rfl, h _ (I.hok.fresh (Nat.le_refl _))⟩
  refine ⟨?_, acc.toList, c', ?_, by simpa using hS⟩
  · unfold upL
    rw [List.length_map, List.length_map, List.length_range]
    exact hsz
  · obtain ⟨hl, hat⟩ := hacc
    unfold upL
    rw [List.map_map]
    have key : ∀ (n : Nat) (ys : List Value), ys.length = n → (∀ (i : Nat) (v : Value), ys[i]? = some v → ∃ t, v = Value.int (lo + (i : Int) * 1) t) → Vals ((List.range n).map (V.int ∘ fun (k : Nat) => lo + (k : Int))) ys := by
      intro n
      induction n with
      | zero =>
        intro ys hy _
        cases ys with
        | nil => exact .nil
        | cons a b => cases hy
      | succ n ih =>
        intro ys hy hv
        rw [List.range_succ, List.map_append]
        have hsp : ys = ys.take n ++ [ys[n]'(by omega)] := by
          rw [List.take_append_getElem]
          exact (List.take_of_length_le (by omega)).symm
        rw [hsp]
        refine (ih (ys.take n) (by rw [List.length_take]; omega) fun i v e => ?_).append (.cons ?_ .nil)
        · have hi : i < n := by
            have := (List.getElem?_eq_some_iff.mp e).1
            rw [List.length_take] at this
            omega
          rw [List.getElem?_take_of_lt hi] at e
          exact hv i v e
        · obtain ⟨t, et⟩ := hv n _ (List.getElem?_eq_getElem (by omega))
          exact ⟨t, by rw [et]; simp⟩
    exact key _ _ (by simpa using hl) fun i v e => hat i v (by simpa using e)
end
end L2
set_option Elab.async false
set_option linter.all false
set_option maxRecDepth 100000
set_option maxHeartbeats 1000000
namespace Tm
open PySem L2
def keyBy (g : Bool) : Wd → Option Wd
  | .num _ => none
  | .key b e a r => some (.key b e a r)
  | .gate _ w => if g = true then keyBy g w else none
def isKey : Wd → Bool
  | .key _ _ _ _ => true
  | _ => false
theorem keyBy_key {g : Bool} : ∀ {w k : Wd}, keyBy g w = some k → isKey k = true
  | .num _, _, h => by cases h
  | .key _ _ _ _, _, h => by cases h; rfl
  | .gate _ w, k, h => by
    unfold keyBy at h
    split at h
    · exact keyBy_key h
    · cases h
theorem keyBy_ok {g : Bool} {rows most : Int} : ∀ {w k : Wd}, keyBy g w = some k → WOk rows most w → WOk rows most k
  | .num _, _, h, _ => by cases h
  | .key _ _ _ _, _, h, o => by cases h; exact o
  | .gate _ w, k, h, o => by
    unfold keyBy at h
    split at h
    · exact keyBy_ok h o.2.2.2
    · cases h
def shown : Wd → List Int
  | .key b e _ r => if (hasR r 103 && hasR r 104) = true then upL b (e - b).toNat else []
  | _ => []
theorem mem_upL {lo : Int} {n : Nat} {c : Int} : c ∈ upL lo n ↔ lo ≤ c ∧ c < lo + n := by
  unfold upL
  rw [List.mem_map]
  constructor
  · rintro ⟨k, hk, rfl⟩
    have := List.mem_range.mp hk
    omega
  · rintro ⟨h1, h2⟩
    exact ⟨(c - lo).toNat, List.mem_range.mpr (by omega), by omega⟩
theorem shown_in {rows most : Int} {k : Wd} {c : Int} (h : c ∈ shown k) (o : WOk rows most k) : 0 ≤ c ∧ c < most := by
  cases k with
  | num n => cases h
  | gate g w => cases h
  | key b e a r =>
    have h : c ∈ if (hasR r 103 && hasR r 104) = true then upL b (e - b).toNat else [] := h
    by_cases q : (hasR r 103 && hasR r 104) = true
    · rw [if_pos q] at h
      have := mem_upL.mp h
      obtain ⟨h1, h2, h3, _⟩ := o
      omega
    · rw [if_neg q] at h
      cases h
inductive Rch (g : Bool) (cs bs : List Wd) : Wd → Prop
  | box {w k : Wd} : w ∈ bs → keyBy g w = some k → Rch g cs bs k
  | cell {k w k' : Wd} {c : Int} : Rch g cs bs k → c ∈ shown k → cs[c.toNat]? = some w → keyBy g w = some k' → Rch g cs bs k'
theorem Rch.ok {g : Bool} {cs bs : List Wd} {rows most : Int} (hc : ∀ x ∈ cs, WOk rows most x) (hb : ∀ x ∈ bs, WOk rows most x) {k : Wd} (h : Rch g cs bs k) : WOk rows most k ∧ isKey k = true := by
  induction h with
  | box h1 h2 => exact ⟨keyBy_ok h2 (hb _ h1), keyBy_key h2⟩
  | cell _ _ h3 h4 _ => exact ⟨keyBy_ok h4 (hc _ (List.mem_of_getElem? h3)), keyBy_key h4⟩
theorem Rch.closed {g : Bool} {cs bs : List Wd} {P : Wd → Prop} (h0 : ∀ w k, w ∈ bs → keyBy g w = some k → P k) (h1 : ∀ k c w k', P k → c ∈ shown k → cs[c.toNat]? = some w → keyBy g w = some k' → P k') {k : Wd} (h : Rch g cs bs k) : P k := by
  induction h with
  | box a b => exact h0 _ _ a b
  | cell _ b c d ih => exact h1 _ _ _ _ ih b c d
def touchB (k : Wd) (cell : Int) (l : Nat) : Bool := match k with
  | .key b e _ r => decide (b ≤ cell) && decide (cell < e) && hasR r l
  | _ => false
def lettersM (ks : List Wd) (cell : Int) : Str := ⟨([103, 115].filter fun l => ks.any fun k => touchB k cell l).toArray⟩
theorem letters_same {ks ks' : List Wd} (h : ∀ k, k ∈ ks ↔ k ∈ ks') (cell : Int) : lettersM ks cell = lettersM ks' cell := by
  have key : (fun l => ks.any fun k => touchB k cell l) = fun l => ks'.any fun k => touchB k cell l := by
    funext l
    rw [Bool.eq_iff_iff, List.any_eq_true, List.any_eq_true]
    exact ⟨fun ⟨k, a, b⟩ => ⟨k, (h k).mp a, b⟩, fun ⟨k, a, b⟩ => ⟨k, (h k).mpr a, b⟩⟩
  unfold lettersM
  rw [key]
def toldM (ks : List Wd) (n : Nat) : List (Int × Str) := ((List.range n).map fun (i : Nat) => ((i : Int), lettersM ks (i : Int))).filter fun p => decide (¬ p.2 = Str.ofString "")
end Tm
set_option Elab.async false
set_option linter.all false
set_option maxRecDepth 100000
set_option maxHeartbeats 1000000
namespace L2
open PySem PySem.Spec PyProof.Rows
section
variable {X : Cx}
end
section
variable {X : Cx} {x : Str} {a : Addr} {kvs : List (Key × V)} {e f : Expr} {ty tx : TE} {apos cpos p : Pos}
end
section
variable {X : Cx} {t1 t2 : Expr} {g1 g2 : TG} {k : Nat} {pos ps : Pos}
end
end L2
set_option Elab.async false
set_option linter.all false
set_option maxRecDepth 100000
set_option maxHeartbeats 1000000
set_option pp.maxSteps 600
set_option pp.deepTerms false
namespace Tm
open PySem L2
def optW (H : Hp) : Option Wd → V → Prop
  | none, v => v = .non
  | some k, v => IsW H k v
theorem optW.tups {H H' : Hp} (t : Tups H H') : ∀ {o : Option Wd} {v : V}, optW H o v → optW H' o v
  | none, _, h => h
  | some _, _, h => IsW.tups t h
def gdep : Wd → Nat
  | .gate _ w => gdep w + 1
  | _ => 0
theorem gdep_ok {rows most : Int} {x : Wd} (h : WOk rows most x) : gdep x ≤ 1 := by
  cases x with
  | num n => exact Nat.zero_le _
  | key b e a r => exact Nat.zero_le _
  | gate g w =>
    obtain ⟨_, _, p, _⟩ := h
    cases w with
    | num n => exact Nat.le_refl _
    | key b e a r => exact Nat.le_refl _
    | gate _ _ => exact p.elim
def spKeyBy (n : Nat) : Sp := fun vs H Q _ => ∃ (v : V) (x : Wd) (g : Bool), vs = [v, .bl g] ∧ IsW H x v ∧ gdep x ≤ n ∧ ∀ u, optW H (keyBy g x) u → Q u H
theorem ni (z : Str) : decide (V.str z = V.str z) = true := decide_eq_true rfl
theorem kindKey : decide (V.str (Str.ofString "gate") = V.str (Str.ofString "key")) = false := by decide +kernel
theorem kindNum : decide (V.str (Str.ofString "number") = V.str (Str.ofString "key")) = false := by decide +kernel
theorem kindNumG : decide (V.str (Str.ofString "number") = V.str (Str.ofString "gate")) = false := by decide +kernel
theorem kindKeyG : decide (V.str (Str.ofString "key") = V.str (Str.ofString "gate")) = false := by decide +kernel
theorem sg : (Str.ofString "g") = ⟨#[103]⟩ := by decide +kernel
theorem sh_ : (Str.ofString "h") = ⟨#[104]⟩ := by decide +kernel
theorem ss : (Str.ofString "s") = ⟨#[115]⟩ := by decide +kernel
def spShown : Sp := fun vs H Q _ => ∃ (v : V) (b e a : Int) (r : Str) (rows most : Int), vs = [v] ∧ IsW H (.key b e a r) v ∧ WOk rows most (.key b e a r) ∧ most ≤ 64 ∧ ∀ l H', Same H H' → H l = none → H' l = some (.lst ((shown (.key b e a r)).map V.int)) → Q (.ref l) H'
def spTouches : Sp := fun vs H Q _ => ∃ (v : V) (k : Wd) (c : Int) (l : Nat), vs = [v, .int c, .str ⟨#[l]⟩] ∧ IsW H k v ∧ isKey k = true ∧ Q (.bl (touchB k c l)) H
abbrev s_key_by : Stmt := top 32
abbrev N_key_by : List Str := ["word", "gates"]
abbrev P_key_by : List Str := ["word", "gates"]
theorem sc_key_by : FnScope N_key_by P_key_by (defScope s_key_by) := ⟨rfl, rfl, rfl, by decide +kernel, rfl, by decide +kernel, by decide +kernel⟩
abbrev s_shown_cells : Stmt := top 34
abbrev N_shown_cells : List Str := ["key"]
abbrev P_shown_cells : List Str := ["key"]
theorem sc_shown_cells : FnScope N_shown_cells P_shown_cells (defScope s_shown_cells) := ⟨rfl, rfl, rfl, by decide +kernel, rfl, by decide +kernel, by decide +kernel⟩
abbrev s_touches : Stmt := top 36
abbrev N_touches : List Str := ["key", "cell", "letter"]
abbrev P_touches : List Str := ["key", "cell", "letter"]
theorem sc_touches : FnScope N_touches P_touches (defScope s_touches) := ⟨rfl, rfl, rfl, by decide +kernel, rfl, by decide +kernel, by decide +kernel⟩
section
variable {P : Program} {w : World} {K : PySem.W.Frag} {mg : Str → Option Value} {base : Heap}
theorem ok_key_by0 {f : Addr} {fd : FuncData} (F : Fun K "key_by" "key_by" s_key_by f fd) (D_kind_of : Df P w K mg base 1 "kind_of" P_kind_of [] spKindOf) : FnOk P w K mg base CX0 2 f fd P_key_by (spKeyBy 0) := by
  have sc := sc_key_by
  refine F.ok sc (fun vs H Q E h => ?_) (fun cdv A outer s H vs Q E hr h => ?_)
  · obtain ⟨v, x, g, rfl, _⟩ := h
    rfl
  obtain ⟨v, x, g, rfl, ix, hd, k⟩ := h
  have hu := hu_of hr
  have hu64 := hr.units
  refine ⟨_, ((pss_cons (ps_if (PW.pt (pw_and (pt_truth (qv 1) (by intro _; rfl)) (pw_and1 (pt_cmpR (oq_eq K hu64) (qcall D_kind_of (by first | exact hr | exact hr.mono (by omega)) (pa_cons (qv 0) pa_nil)) pe_str (nomark _)))))
  pss_never
  pss_nil)
  (pss_one (ps_ret (pe_ifExp (pt_cmpR (oq_eq K hu64) (qcall D_kind_of (by first | exact hr | exact hr.mono (by omega)) (pa_cons (qv 0) pa_nil)) pe_str (nomark _)) (qv 0) pe_non)))) : PSs _ (_ :: _) _), ?_⟩
  refine ⟨g, rfl, ?_⟩
  have main : ∀ {B : Prop}, B → (if g = true then ∃ (v' : V) (x' : Wd), [v] = [v'] ∧ IsW H x' v' ∧ True else B) → True := fun _ _ => trivial
  cases x with
  | gate a y => exact absurd hd (by show ¬ (gdep y + 1 ≤ 0); omega)
  | num n =>
    have fin := k .non rfl
    cases g with
    | false => exact iteF (iteF ⟨v, .num n, rfl, ix, rfl, _, rfl, iteF' kindNum fin⟩)
    | true => exact iteT ⟨v, .num n, rfl, ix, rfl, _, rfl, iteF' kindNumG ⟨v, .num n, rfl, ix, rfl, _, rfl, iteF' kindNum fin⟩⟩
  | key b e a r =>
    have fin := k v ix
    cases g with
    | false => exact iteF (iteF ⟨v, .key b e a r, rfl, ix, rfl, _, rfl, iteT' (ni _) fin⟩)
    | true => exact iteT ⟨v, .key b e a r, rfl, ix, rfl, _, rfl, iteF' kindKeyG ⟨v, .key b e a r, rfl, ix, rfl, _, rfl, iteT' (ni _) fin⟩⟩
theorem ok_key_by1 {f : Addr} {fd : FuncData} (F : Fun K "key_by" "key_by" s_key_by f fd) (D_kind_of : Df P w K mg base 1 "kind_of" P_kind_of [] spKindOf) (D_key_by : Df P w K mg base 2 "key_by" P_key_by [] (spKeyBy 0)) : FnOk P w K mg base CX0 3 f fd P_key_by (spKeyBy 1) := by
  have sc := sc_key_by
  refine F.ok sc (fun vs H Q E h => ?_) (fun cdv A outer s H vs Q E hr h => ?_)
  · obtain ⟨v, x, g, rfl, _⟩ := h
    rfl
  obtain ⟨v, x, g, rfl, ix, hd, k⟩ := h
  have hu := hu_of hr
  have hu64 := hr.units
  refine ⟨_, ((pss_cons (ps_if (PW.pt (pw_and (pt_truth (qv 1) (by intro _; rfl)) (pw_and1 (pt_cmpR (oq_eq K hu64) (qcall D_kind_of (by first | exact hr | exact hr.mono (by omega)) (pa_cons (qv 0) pa_nil)) pe_str (nomark _)))))
  (pss_one (ps_ret (qcall D_key_by (by first | exact hr | exact hr.mono (by omega)) (pa_cons (pe_ix (iq K hu) (qv 0) pe_int (fun _ _ => rfl)) (pa_cons (qv 1) pa_nil)))))
  pss_nil)
  (pss_one (ps_ret (pe_ifExp (pt_cmpR (oq_eq K hu64) (qcall D_kind_of (by first | exact hr | exact hr.mono (by omega)) (pa_cons (qv 0) pa_nil)) pe_str (nomark _)) (qv 0) pe_non)))) : PSs _ (_ :: _) _), ?_⟩
  refine ⟨g, rfl, ?_⟩
  cases x with
  | gate a y =>
    have hy : gdep y ≤ 0 := Nat.le_of_succ_le_succ (show gdep y + 1 ≤ 0 + 1 from hd)
    cases g with
    | false =>
      have fin := k .non rfl
      exact iteF (iteF ⟨v, .gate a y, rfl, ix, rfl, _, rfl, iteF' kindKey fin⟩)
    | true =>
      refine iteT ⟨v, .gate a y, rfl, ix, rfl, _, rfl, iteT' (ni _) ?_⟩
      obtain ⟨p, u, rfl, hp, iu⟩ := ix
      exact .inr (.inl ⟨_, _, SqT.of hp, rfl, u, y, true, rfl, iu, hy, fun z hz => k z hz⟩)
  | num n =>
    have fin := k .non rfl
    cases g with
    | false => exact iteF (iteF ⟨v, .num n, rfl, ix, rfl, _, rfl, iteF' kindNum fin⟩)
    | true => exact iteT ⟨v, .num n, rfl, ix, rfl, _, rfl, iteF' kindNumG ⟨v, .num n, rfl, ix, rfl, _, rfl, iteF' kindNum fin⟩⟩
  | key b e a r =>
    have fin := k v ix
    cases g with
    | false => exact iteF (iteF ⟨v, .key b e a r, rfl, ix, rfl, _, rfl, iteT' (ni _) fin⟩)
    | true => exact iteT ⟨v, .key b e a r, rfl, ix, rfl, _, rfl, iteF' kindKeyG ⟨v, .key b e a r, rfl, ix, rfl, _, rfl, iteT' (ni _) fin⟩⟩
theorem ok_shown {f : Addr} {fd : FuncData} (F : Fun K "shown_cells" "shown_cells" s_shown_cells f fd) (T : Tx mg) : FnOk P w K mg base CX0 1 f fd P_shown_cells spShown := by
  have sc := sc_shown_cells
  refine F.ok sc (fun vs H Q E h => ?_) (fun cdv A outer s H vs Q E hr h => ?_)
  · obtain ⟨v, b, e, a, r, rows, most, rfl, _⟩ := h
    rfl
  obtain ⟨v, b, e, a, r, rows, most, rfl, ⟨p, rfl, hp⟩, ok, hm, k⟩ := h
  have hu := hu_of hr
  have hT := SqT.of (K := K) hp
  obtain ⟨b0, b1, e1, _⟩ := ok
  refine ⟨_, ((pss_cons (ps_if (PW.pt (pw_and (pt_cmpR op_in_sign pe_str (pe_ix (iq K hu) (qv 0) pe_int (fun _ _ => rfl)) (by rfl)) (pw_and1 (pt_cmpR op_in_sign pe_str (pe_ix (iq K hu) (qv 0) pe_int (fun _ _ => rfl)) (by rfl)))))
  (pss_one (ps_ret (pe_callTy (cr_list_rng rfl) (by rfl) T.list (by decide +kernel) (pa_cons (pe_callTy cr_range2 (by rfl) T.range (by decide +kernel) (pa_cons (pe_ix (iq K hu) (qv 0) pe_int (fun _ _ => rfl)) (pa_cons (pe_ix (iq K hu) (qv 0) pe_int (fun _ _ => rfl)) pa_nil))) pa_nil))))
  pss_nil)
  (pss_one (ps_ret (pe_lst pa_nil)))) : PSs _ (_ :: _) _), ?_⟩
  have none_ : (hasR r 103 && hasR r 104) = false → ∀ l, H l = none → Q (.ref l) (upd H l (.lst [])) := fun q l hl => by
    refine k l _ (same_new hl _) hl ?_
    have e : shown (.key b e a r) = [] := if_neg (by rw [q]; decide)
    rw [e]
    exact upd_same
  refine .inr (.inl ⟨_, _, hT, rfl, 103, r, congrArg V.str sg, rfl, _, rfl, ?_⟩)
  by_cases q1 : hasR r 103 = true
  rotate_left
  · refine iteF' (Bool.eq_false_iff.mpr q1) (iteF ⟨(by decide : 0 ≤ sizeLine), none_ (by rw [Bool.eq_false_iff.mpr q1]; rfl)⟩)
  refine iteT' q1 ?_
  refine .inr (.inl ⟨_, _, hT, rfl, 104, r, congrArg V.str sh_, rfl, _, rfl, ?_⟩)
  by_cases q2 : hasR r 104 = true
  rotate_left
  · refine iteF' (Bool.eq_false_iff.mpr q2) ⟨(by decide : 0 ≤ sizeLine), none_ (by rw [Bool.eq_false_iff.mpr q2, Bool.and_false])⟩
  refine iteT' q2 ?_
  refine .inr (.inl ⟨_, _, hT, rfl, .inr (.inl ⟨_, _, hT, rfl, _, _, rfl, fun pr hpr => ?_⟩)⟩)
  refine ⟨pr, b, e, rfl, upd_same, ⟨by omega, by omega, by omega, by omega⟩, fun l hl => ?_⟩
  have s1 := same_new hpr (.rng b e)
  refine k l _ (s1.trans (same_new hl _)) (s1.free hl) ?_
  have e : shown (.key b e a r) = upL b (e - b).toNat := if_pos (by rw [q1, q2]; rfl)
  rw [e]
  exact upd_same
theorem ok_touches {f : Addr} {fd : FuncData} (F : Fun K "touches" "touches" s_touches f fd) : FnOk P w K mg base CX0 1 f fd P_touches spTouches := by
  have sc := sc_touches
  refine F.ok sc (fun vs H Q E h => ?_) (fun cdv A outer s H vs Q E hr h => ?_)
  · obtain ⟨v, x, c, l, rfl, _⟩ := h
    rfl
  obtain ⟨v, x, c, l, rfl, ix, hk, k⟩ := h
  have hu := hu_of hr
  cases x with
  | num n => cases hk
  | gate g y => cases hk
  | key b e a r =>
    obtain ⟨p, rfl, hp⟩ := ix
    have hT := SqT.of (K := K) hp
    have k : Q (.bl (decide (b ≤ c) && decide (c < e) && hasR r l)) H := k
    refine ⟨_, ((pss_one (ps_ret (pe_and (pe_chain oq_le oq_lt (pe_ix (iq K hu) (qv 0) pe_int (fun _ _ => rfl)) (qv 1) (pe_ix (iq K hu) (qv 0) pe_int (fun _ _ => rfl))) (pe_one (pe_cmpR op_in_sign (qv 2) (pe_ix (iq K hu) (qv 0) pe_int (fun _ _ => rfl)) (by rfl)))))) : PSs _ [_] _), ?_⟩
    refine .inr (.inl ⟨_, _, hT, rfl, _, rfl, ?_⟩)
    by_cases q1 : b ≤ c
    rotate_left
    · refine iteF' (decide_eq_false q1) ⟨_, rfl, iteF ?_⟩
      rw [decide_eq_false q1] at k
      exact k
    refine iteT' (decide_eq_true q1) ?_
    rw [decide_eq_true q1, Bool.true_and] at k
    refine .inr (.inl ⟨_, _, hT, rfl, _, rfl, ?_⟩)
    by_cases q2 : c < e
    rotate_left
    · rw [decide_eq_false q2]
      rw [decide_eq_false q2] at k
      exact iteF k
    rw [decide_eq_true q2]
    rw [decide_eq_true q2, Bool.true_and] at k
    refine iteT (.inr (.inl ⟨_, _, hT, rfl, l, r, rfl, rfl, ?_⟩))
    exact k
end
end Tm
set_option Elab.async false
set_option linter.all false
set_option maxRecDepth 100000
set_option maxHeartbeats 1000000
namespace Tm
open PySem L2 TL
def numS (i : Int) : Str := Str.ofString (toString i)
def Rw.word : Rw → Str
  | .put _ _ => "put"
  | .move _ _ => "move"
  | .add _ _ _ => "add"
  | .take _ _ _ => "take"
  | .less _ _ _ => "less"
  | .same _ _ _ => "same"
  | .is_ _ _ => "is"
  | .get _ _ _ => "get"
  | .set _ _ _ => "set"
  | .narrow _ _ _ => "narrow"
  | .fewer _ _ _ => "fewer"
  | .gate _ _ _ => "gate"
  | .enter _ => "enter"
  | .room _ => "room"
  | .shut _ => "shut"
  | .say _ => "say"
  | .go _ => "go"
  | .if_ _ _ => "if"
  | .end_ => "end"
def Rw.args : Rw → List V
  | .put r n => [.int r, .int n]
  | .move r s => [.int r, .int s]
  | .add r s t => [.int r, .int s, .int t]
  | .take r s t => [.int r, .int s, .int t]
  | .less r s t => [.int r, .int s, .int t]
  | .same r s t => [.int r, .int s, .int t]
  | .is_ r s => [.int r, .int s]
  | .get r s far => [.int r, .int s, .int far]
  | .set s far t => [.int s, .int far, .int t]
  | .narrow r s t => [.int r, .int s, .int t]
  | .fewer r s x => [.int r, .int s, .str x]
  | .gate r s row => [.int r, .int s, .int row]
  | .enter s => [.int s]
  | .room r => [.int r]
  | .shut s => [.int s]
  | .say s => [.int s]
  | .go row => [.int row]
  | .if_ s row => [.int s, .int row]
  | .end_  => []
theorem Rw.vals_eq : ∀ x : Rw, x.vals = .str x.word :: x.args
  | .put _ _ => rfl
  | .move _ _ => rfl
  | .add _ _ _ => rfl
  | .take _ _ _ => rfl
  | .less _ _ _ => rfl
  | .same _ _ _ => rfl
  | .is_ _ _ => rfl
  | .get _ _ _ => rfl
  | .set _ _ _ => rfl
  | .narrow _ _ _ => rfl
  | .fewer _ _ _ => rfl
  | .gate _ _ _ => rfl
  | .enter _ => rfl
  | .room _ => rfl
  | .shut _ => rfl
  | .say _ => rfl
  | .go _ => rfl
  | .if_ _ _ => rfl
  | .end_ => rfl
def wordOk (z : Str) : Prop := z.length ≤ 6 ∧ ∀ c ∈ tl z, 97 ≤ c ∧ c ≤ 122
def valOk (v : V) : Prop := (∃ i, v = .int i ∧ numOk i) ∨ ∃ z, v = .str z ∧ wordOk z
def AllV (P : V → Prop) : List V → Prop
  | [] => True
  | v :: r => P v ∧ AllV P r
theorem AllV.mem {P : V → Prop} : ∀ {l : List V}, AllV P l → ∀ v ∈ l, P v
  | [], _, _, h => absurd h (by simp)
  | w :: r, ⟨a, b⟩, v, h => by
    rcases List.mem_cons.mp h with q | q
    · rw [q]; exact a
    · exact b.mem v q
theorem ok_box {r : Int} (h : box r) : valOk (.int r) := .inl ⟨r, rfl, by unfold box at h; unfold numOk; omega⟩
theorem ok_num {r : Int} (h : numOk r) : valOk (.int r) := .inl ⟨r, rfl, h⟩
theorem ok_far {r : Int} (h : -63 ≤ r ∧ r ≤ 63) : valOk (.int r) := .inl ⟨r, rfl, by unfold numOk; omega⟩
theorem ok_row' {r m : Int} (hm : m ≤ 1000) (h : 0 ≤ r ∧ r ≤ m) : valOk (.int r) := .inl ⟨r, rfl, by unfold numOk; omega⟩
theorem ok_rts {z : Str} (h : RightsOk z) : valOk (.str z) := .inr ⟨z, rfl, by
  have hl := h.length_le
  rw [len_tl]
  show (tl z).length ≤ 6
  exact Nat.le_trans hl (by decide), fun c hc => by
  have q := h.subset hc
  simp at q
  omega⟩
theorem args_ok {rows : Int} (hr : rows ≤ 1000) : ∀ x : Rw, ROk rows x → AllV valOk x.args
  | .put _ _, h => ⟨ok_box h.1, ok_num h.2, trivial⟩
  | .move _ _, h => ⟨ok_box h.1, ok_box h.2, trivial⟩
  | .add _ _ _, h => ⟨ok_box h.1, ok_box h.2.1, ok_box h.2.2, trivial⟩
  | .take _ _ _, h => ⟨ok_box h.1, ok_box h.2.1, ok_box h.2.2, trivial⟩
  | .less _ _ _, h => ⟨ok_box h.1, ok_box h.2.1, ok_box h.2.2, trivial⟩
  | .same _ _ _, h => ⟨ok_box h.1, ok_box h.2.1, ok_box h.2.2, trivial⟩
  | .is_ _ _, h => ⟨ok_box h.1, ok_box h.2, trivial⟩
  | .get _ _ _, h => ⟨ok_box h.1, ok_box h.2.1, ok_far h.2.2, trivial⟩
  | .set _ _ _, h => ⟨ok_box h.1, ok_far h.2.1, ok_box h.2.2, trivial⟩
  | .narrow _ _ _, h => ⟨ok_box h.1, ok_box h.2.1, ok_box h.2.2, trivial⟩
  | .fewer _ _ _, h => ⟨ok_box h.1, ok_box h.2.1, ok_rts h.2.2, trivial⟩
  | .gate _ _ _, h => ⟨ok_box h.1, ok_box h.2.1, ok_row' hr h.2.2, trivial⟩
  | .enter _, h => ⟨ok_box h, trivial⟩
  | .room _, h => ⟨ok_box h, trivial⟩
  | .shut _, h => ⟨ok_box h, trivial⟩
  | .say _, h => ⟨ok_box h, trivial⟩
  | .go _, h => ⟨ok_row' hr ⟨h.1, Int.le_of_lt h.2⟩, trivial⟩
  | .if_ _ _, h => ⟨ok_box h.1, ok_row' hr ⟨h.2.1, Int.le_of_lt h.2.2⟩, trivial⟩
  | .end_, _ => trivial
def wordB (z : Str) : Bool := decide (z.length ≤ 6) && (tl z).all (fun c => decide (97 ≤ c ∧ c ≤ 122)) && decide (z ≠ Str.ofString "")
theorem wk (z : Str) (h : wordB z = true) : wordOk z ∧ z ≠ Str.ofString "" := by
  unfold wordB at h
  obtain ⟨h1, h2⟩ := Bool.and_eq_true_iff.mp h
  obtain ⟨h3, h4⟩ := Bool.and_eq_true_iff.mp h1
  exact ⟨⟨of_decide_eq_true h3, fun c hc => of_decide_eq_true (List.all_eq_true.mp h4 c hc)⟩, of_decide_eq_true h2⟩
theorem word_ok : ∀ x : Rw, wordOk x.word ∧ x.word ≠ Str.ofString ""
  | .put _ _ => wk "put" (by decide +kernel)
  | .move _ _ => wk "move" (by decide +kernel)
  | .add _ _ _ => wk "add" (by decide +kernel)
  | .take _ _ _ => wk "take" (by decide +kernel)
  | .less _ _ _ => wk "less" (by decide +kernel)
  | .same _ _ _ => wk "same" (by decide +kernel)
  | .is_ _ _ => wk "is" (by decide +kernel)
  | .get _ _ _ => wk "get" (by decide +kernel)
  | .set _ _ _ => wk "set" (by decide +kernel)
  | .narrow _ _ _ => wk "narrow" (by decide +kernel)
  | .fewer _ _ _ => wk "fewer" (by decide +kernel)
  | .gate _ _ _ => wk "gate" (by decide +kernel)
  | .enter _ => wk "enter" (by decide +kernel)
  | .room _ => wk "room" (by decide +kernel)
  | .shut _ => wk "shut" (by decide +kernel)
  | .say _ => wk "say" (by decide +kernel)
  | .go _ => wk "go" (by decide +kernel)
  | .if_ _ _ => wk "if" (by decide +kernel)
  | .end_ => wk "end" (by decide +kernel)
theorem vals_ok {rows : Int} (hr : rows ≤ 1000) (x : Rw) (h : ROk rows x) : ∀ v ∈ x.vals, valOk v := by
  rw [x.vals_eq]
  intro v hv
  rcases List.mem_cons.mp hv with q | q
  · rw [q]; exact .inr ⟨_, rfl, (word_ok x).1⟩
  · exact (args_ok hr x h).mem v q
def wv : V → Str
  | .int i => numS i
  | .str z => if z = Str.ofString "" then "-" else z
  | _ => ""
end Tm
set_option Elab.async false
set_option linter.all false
set_option maxRecDepth 100000
set_option maxHeartbeats 1000000
namespace Tm
open PySem L2
def datV : V → PyData
  | .int i => .int i
  | .str z => .str z
  | .bl b => .bool b
  | _ => .none
def Rw.dat (x : Rw) : PyData := .tuple (x.vals.map datV)
theorem dp_all {K : PySem.W.Frag} {H : Hp} : ∀ {vs : List V}, (∀ v ∈ vs, valOk v) → DpAll K H vs (vs.map datV)
  | [], _ => .nil
  | v :: vs, h => by
    refine .cons ?_ (dp_all fun u hu => h u (List.mem_cons_of_mem _ hu))
    rcases h v (by simp) with ⟨i, rfl, _⟩ | ⟨z, rfl, _⟩
    · exact .int i
    · exact .str z
theorem IsR.dp {K : PySem.W.Frag} {H : Hp} {x : Rw} {v : V} {rows : Int} (h : IsR H x v) (hr : rows ≤ 1000) (ok : ROk rows x) : Dp K H v x.dat := by
  obtain ⟨p, rfl, hp⟩ := h
  exact .tup (SqT.of hp) (dp_all (vals_ok hr x ok))
end Tm
set_option Elab.async false
set_option linter.all false
set_option maxRecDepth 100000
set_option maxHeartbeats 1000000
namespace L2
open PySem PySem.Spec PyProof.Rows
section
variable {X : Cx}
end
end L2
namespace Tm
open PySem L2
def wdD : Wd → PyData
  | .num n => .int n
  | .key b e a r => .tuple [.str "key", .int b, .int e, .int a, .str r]
  | .gate g w => .tuple [.str "gate", .int g, wdD w]
theorem IsW.dp {K : PySem.W.Frag} {H : Hp} : ∀ {w : Wd} {v : V}, IsW H w v → Dp K H v (wdD w)
  | .num n, _, h => by
    have h : _ = V.int n := h
    subst h
    exact .int n
  | .key b e a r, _, ⟨p, h, q⟩ => by
    subst h
    exact .tup (SqT.of q) (.cons (.str _) (.cons (.int _) (.cons (.int _) (.cons (.int _) (.cons (.str _) .nil)))))
  | .gate g w, _, ⟨p, u, h, q, i⟩ => by
    subst h
    exact .tup (SqT.of q) (.cons (.str _) (.cons (.int _) (.cons i.dp .nil)))
theorem dp_words {K : PySem.W.Frag} {H : Hp} : ∀ {ws : List Wd} {vs : List V}, Paired (IsW H) ws vs → DpAll K H vs (ws.map wdD)
  | _, _, .nil => .nil
  | _, _, .cons h t => .cons h.dp (dp_words t)
end Tm
set_option Elab.async false
set_option linter.all false
set_option maxRecDepth 100000
set_option maxHeartbeats 1000000
namespace Tm
open PySem L2
structure Way where
  box : Int
  hops : List (Wd × Int)
  key : Wd
inductive Vw (g : Bool) (cs bs : List Wd) : Way → Prop
  | box {i : Nat} {w k : Wd} : bs[i]? = some w → keyBy g w = some k → Vw g cs bs ⟨(i : Int), [], k⟩
  | hop {b : Int} {hs : List (Wd × Int)} {k w k' : Wd} {c : Int} : Vw g cs bs ⟨b, hs, k⟩ → c ∈ shown k → cs[c.toNat]? = some w → keyBy g w = some k' → Vw g cs bs ⟨b, hs ++ [(k, c)], k'⟩
theorem Vw.rch {g : Bool} {cs bs : List Wd} {v : Way} (h : Vw g cs bs v) : Rch g cs bs v.key := by
  induction h with
  | box a b => exact .box (List.mem_of_getElem? a) b
  | hop _ b c d ih => exact .cell ih b c d
theorem Rch.way {g : Bool} {cs bs : List Wd} {k : Wd} (h : Rch g cs bs k) : ∃ v, Vw g cs bs v ∧ v.key = k := by
  induction h with
  | box a b =>
    obtain ⟨i, hi⟩ := List.mem_iff_getElem?.mp a
    exact ⟨_, .box hi b, rfl⟩
  | cell _ b c d ih =>
    obtain ⟨⟨x, hs, k⟩, hv, e⟩ := ih
    cases e
    exact ⟨_, .hop hv b c d, rfl⟩
theorem nodup_bound : ∀ (m : Nat) (l : List Int), l.Nodup → (∀ x ∈ l, 0 ≤ x ∧ x < (m : Int)) → l.length ≤ m
  | 0, l, _, h => by
    cases l with
    | nil => exact Nat.le_refl _
    | cons a r => have := h a (by simp); omega
  | m + 1, l, hn, h => by
    by_cases hm : (m : Int) ∈ l
    · have e := List.length_erase_of_mem hm
      have ih := nodup_bound m (l.erase (m : Int)) (hn.erase _) fun x hx => by
        have h1 := h x (List.mem_of_mem_erase hx)
        have h2 : x ≠ (m : Int) := fun z => by
          rw [z] at hx
          exact (hn.not_mem_erase) hx
        omega
      omega
    · have ih := nodup_bound m l hn fun x hx => by
        have h1 := h x hx
        have h2 : x ≠ (m : Int) := fun z => hm (z ▸ hx)
        omega
      omega
structure Wv (g : Bool) (cs bs : List Wd) (most : Int) (ws : List Way) (cov : List Int) (S : Int → Bool) (n a d : Nat) : Prop where
  vw : ∀ v ∈ ws, Vw g cs bs v
  box : ∀ (i : Nat) (w k : Wd), bs[i]? = some w → keyBy g w = some k → (⟨(i : Int), [], k⟩ : Way) ∈ ws
  cvd : ∀ c ∈ cov, ∀ w k, cs[c.toNat]? = some w → keyBy g w = some k → ∃ u ∈ ws, u.key = k
  old : ∀ (j : Nat) (v : Way), j < a → ws[j]? = some v → ∀ c ∈ shown v.key, ∀ w k, cs[c.toNat]? = some w → keyBy g w = some k → ∃ u ∈ ws, u.key = k ∧ u.hops.length ≤ v.hops.length + 1
  mem : ∀ c, S c = true ↔ c ∈ cov
  num : n = cov.length
  nd : cov.Nodup
  rng : ∀ c ∈ cov, 0 ≤ c ∧ c < most
  few : ws.length ≤ 8 + cov.length
  srt : ∀ (i j : Nat) (u v : Way), i ≤ j → ws[i]? = some u → ws[j]? = some v → u.hops.length ≤ v.hops.length
  top : ∀ u ∈ ws, u.hops.length ≤ d + 1
  low : ∀ (j : Nat) (v : Way), ws[j]? = some v → v.hops.length ≤ j
theorem Wv.cov64 {g : Bool} {cs bs : List Wd} {most : Int} {ws : List Way} {cov : List Int} {S : Int → Bool} {n a d : Nat} (h : Wv g cs bs most ws cov S n a d) (hm : most ≤ 64) : cov.length ≤ 64 :=
  nodup_bound 64 cov h.nd fun c hc => by
    have := h.rng c hc
    omega
theorem Wv.look {g : Bool} {cs bs : List Wd} {most : Int} {ws ws' : List Way} {cov : List Int} {S : Int → Bool} {n a d : Nat} {c : Int} {w : Wd} (h : Wv g cs bs most ws cov S n a d) (hc : 0 ≤ c ∧ c < most) (hw : cs[c.toNat]? = some w)
    (hk : (ws' = ws ∧ (S c = true ∨ keyBy g w = none)) ∨ (∃ v : Way, S c = false ∧ keyBy g w = some v.key ∧ Vw g cs bs v ∧ v.hops.length = d + 1 ∧ v.hops.length ≤ ws.length ∧ ws' = ws ++ [v])) (ha : a ≤ ws.length) :
    ∃ cov', Wv g cs bs most ws' cov' (fun k' => S k' || decide (k' = c)) (if S c = true then n else n + 1) a d ∧ c ∈ cov' ∧ ∀ d ∈ cov, d ∈ cov' := by
  have sub : ∀ v ∈ ws, v ∈ ws' := by
    rcases hk with ⟨rfl, _⟩ | ⟨v, _, _, _, _, _, rfl⟩
    · exact fun v h => h
    · exact fun v h => List.mem_append_left _ h
  have old' : ∀ (j : Nat) (v : Way), j < a → ws'[j]? = some v → ws[j]? = some v := fun j v hj e => by
    rcases hk with ⟨rfl, _⟩ | ⟨k', _, _, _, _, _, rfl⟩
    · exact e
    · rw [List.getElem?_append_left (by omega)] at e
      exact e
  have vw' : ∀ v ∈ ws', Vw g cs bs v := fun v hv => by
    rcases hk with ⟨rfl, _⟩ | ⟨v', _, _, r, _, _, rfl⟩
    · exact h.vw v hv
    · rcases List.mem_append.mp hv with z | z
      · exact h.vw v z
      · rw [List.mem_singleton.mp z]; exact r
  have top' : ∀ v ∈ ws', v.hops.length ≤ d + 1 := fun v hv => by
    rcases hk with ⟨rfl, _⟩ | ⟨v', _, _, _, r, _, rfl⟩
    · exact h.top v hv
    · rcases List.mem_append.mp hv with z | z
      · exact h.top v z
      · rw [List.mem_singleton.mp z, r]; exact Nat.le_refl _
  have split : ∀ (j : Nat) (v : Way), ws'[j]? = some v → ws[j]? = some v ∨ (j = ws.length ∧ v.hops.length = d + 1 ∧ v.hops.length ≤ ws.length) := fun j v e => by
    rcases hk with ⟨rfl, _⟩ | ⟨v', _, _, _, r1, r2, rfl⟩
    · exact .inl e
    · by_cases hj : j < ws.length
      · rw [List.getElem?_append_left hj] at e
        exact .inl e
      · have hj2 : j = ws.length := by
          have := (List.getElem?_eq_some_iff.mp e).1
          rw [List.length_append, List.length_singleton] at this
          omega
        subst hj2
        rw [List.getElem?_append_right (Nat.le_refl _), Nat.sub_self] at e
        cases e
        exact .inr ⟨rfl, r1, r2⟩
  have srt' : ∀ (i j : Nat) (u v : Way), i ≤ j → ws'[i]? = some u → ws'[j]? = some v → u.hops.length ≤ v.hops.length := fun i j u v hij e1 e2 => by
    rcases split j v e2 with z2 | ⟨_, z2, _⟩
    · rcases split i u e1 with z1 | ⟨z1, _, _⟩
      · exact h.srt i j u v hij z1 z2
      · have := (List.getElem?_eq_some_iff.mp z2).1
        omega
    · rw [z2]
      exact top' u (List.mem_of_getElem? e1)
  have low' : ∀ (j : Nat) (v : Way), ws'[j]? = some v → v.hops.length ≤ j := fun j v e => by
    rcases split j v e with z | ⟨z, _, z2⟩
    · exact h.low j v z
    · omega
  have oldF : ∀ (j : Nat) (v : Way), j < a → ws'[j]? = some v → ∀ c ∈ shown v.key, ∀ w k, cs[c.toNat]? = some w → keyBy g w = some k → ∃ u ∈ ws', u.key = k ∧ u.hops.length ≤ v.hops.length + 1 := fun j v hj e c hc w k e1 e2 => by
    obtain ⟨u, hu, eu⟩ := h.old j v hj (old' j v hj e) c hc w k e1 e2
    exact ⟨u, sub u hu, eu⟩
  by_cases hs : S c = true
  · have hin : c ∈ cov := (h.mem c).mp hs
    have e : ws' = ws := by
      rcases hk with ⟨e, _⟩ | ⟨_, z, _⟩
      · exact e
      · rw [hs] at z; cases z
    subst e
    refine ⟨cov, ⟨h.vw, h.box, h.cvd, h.old, fun d => ?_, ?_, h.nd, h.rng, h.few, h.srt, h.top, h.low⟩, hin, fun d hd => hd⟩
    · constructor
      · intro z
        rcases Bool.or_eq_true_iff.mp z with z | z
        · exact (h.mem d).mp z
        · rw [of_decide_eq_true z]; exact hin
      · intro z
        rw [(h.mem d).mpr z]
        rfl
    · rw [if_pos hs]
      exact h.num
  · have hnot : c ∉ cov := fun z => hs ((h.mem c).mpr z)
    refine ⟨cov ++ [c], ⟨vw', fun i w' k a b => sub _ (h.box i w' k a b), fun d hd w' k e1 e2 => ?_, oldF, fun d => ?_, ?_, ?_, fun d hd => ?_, ?_, srt', top', low'⟩, List.mem_append_right _ (by simp), fun d hd => List.mem_append_left _ hd⟩
    · rcases List.mem_append.mp hd with z | z
      · obtain ⟨u, hu, eu⟩ := h.cvd d z w' k e1 e2
        exact ⟨u, sub u hu, eu⟩
      · have z := List.mem_singleton.mp z
        subst z
        rw [hw] at e1
        cases e1
        rcases hk with ⟨_, z | z⟩ | ⟨v', _, e3, _, _, _, rfl⟩
        · exact absurd z hs
        · rw [e2] at z; cases z
        · rw [e2] at e3
          exact ⟨v', List.mem_append_right _ (by simp), (Option.some.inj e3).symm⟩
    · constructor
      · intro z
        rcases Bool.or_eq_true_iff.mp z with z | z
        · exact List.mem_append_left _ ((h.mem d).mp z)
        · rw [of_decide_eq_true z]; exact List.mem_append_right _ (by simp)
      · intro z
        rcases List.mem_append.mp z with z | z
        · rw [(h.mem d).mpr z]; rfl
        · rw [List.mem_singleton.mp z, decide_eq_true rfl, Bool.or_true]
    · rw [if_neg hs, List.length_append, h.num]
      rfl
    · exact List.nodup_append.mpr ⟨h.nd, by simp, fun x hx y hy z => hnot (by rw [← List.mem_singleton.mp hy, ← z]; exact hx)⟩
    · rcases List.mem_append.mp hd with z | z
      · exact h.rng d z
      · rw [List.mem_singleton.mp z]; exact hc
    · have f := h.few
      rw [List.length_append, List.length_singleton]
      rcases hk with ⟨rfl, _⟩ | ⟨k', _, _, _, _, _, rfl⟩
      · omega
      · rw [List.length_append, List.length_singleton]
        omega
theorem Wv.next {g : Bool} {cs bs : List Wd} {most : Int} {ws : List Way} {cov : List Int} {S : Int → Bool} {n a d : Nat} {v : Way} (h : Wv g cs bs most ws cov S n a d) (hv : ws[a]? = some v) (hd : v.hops.length = d) (hc : ∀ c ∈ shown v.key, c ∈ cov) : Wv g cs bs most ws cov S n (a + 1) d :=
  ⟨h.vw, h.box, h.cvd, fun j u hj e c hcs w k e1 e2 => by
    by_cases hja : j < a
    · exact h.old j u hja e c hcs w k e1 e2
    · have ej : j = a := by omega
      subst ej
      rw [hv] at e
      cases e
      obtain ⟨u, hu, eu⟩ := h.cvd c (hc c hcs) w k e1 e2
      exact ⟨u, hu, eu, by rw [hd]; exact h.top u hu⟩, h.mem, h.num, h.nd, h.rng, h.few, h.srt, h.top, h.low⟩
theorem Wv.deep {g : Bool} {cs bs : List Wd} {most : Int} {ws : List Way} {cov : List Int} {S : Int → Bool} {n a d d' : Nat} (h : Wv g cs bs most ws cov S n a d) (hd : ∀ u ∈ ws, u.hops.length ≤ d' + 1) : Wv g cs bs most ws cov S n a d' :=
  ⟨h.vw, h.box, h.cvd, h.old, h.mem, h.num, h.nd, h.rng, h.few, h.srt, hd, h.low⟩
theorem Wv.least {g : Bool} {cs bs : List Wd} {most : Int} {ws : List Way} {cov : List Int} {S : Int → Bool} {n d : Nat} (h : Wv g cs bs most ws cov S n ws.length d) {v : Way} (hv : Vw g cs bs v) : ∃ u ∈ ws, u.key = v.key ∧ u.hops.length ≤ v.hops.length := by
  induction hv with
  | box a b => exact ⟨_, h.box _ _ _ a b, rfl, Nat.le_refl _⟩
  | hop _ b c d ih =>
    obtain ⟨u, hu, ek, el⟩ := ih
    obtain ⟨j, hj⟩ := List.mem_iff_getElem?.mp hu
    have hjl := (List.getElem?_eq_some_iff.mp hj).1
    dsimp only at ek el
    rw [← ek] at b
    obtain ⟨u', hu', ek', el'⟩ := h.old j u hjl hj _ b _ _ c d
    refine ⟨u', hu', ek', ?_⟩
    rw [List.length_append, List.length_singleton]
    omega
def firstW (g : Bool) (bs : List Wd) (n : Nat) : List Way := (List.range n).filterMap fun (i : Nat) => (bs[i]?.bind (keyBy g)).map fun k => (⟨(i : Int), [], k⟩ : Way)
theorem firstW_succ (g : Bool) (bs : List Wd) (n : Nat) : firstW g bs (n + 1) = firstW g bs n ++ (((bs[n]?.bind (keyBy g)).map fun k => (⟨(n : Int), [], k⟩ : Way)).toList) := by
  unfold firstW
  rw [List.range_succ, List.filterMap_append]
  congr 1
theorem mem_firstW {g : Bool} {bs : List Wd} {n : Nat} {v : Way} : v ∈ firstW g bs n ↔ ∃ i w k, i < n ∧ bs[i]? = some w ∧ keyBy g w = some k ∧ v = ⟨(i : Int), [], k⟩ := by
  unfold firstW
  rw [List.mem_filterMap]
  constructor
  · rintro ⟨i, hi, e⟩
    cases hb : bs[i]? with
    | none => rw [hb] at e; cases e
    | some w =>
      rw [hb] at e
      cases hk : keyBy g w with
      | none => rw [Option.bind_some, hk] at e; cases e
      | some k =>
        rw [Option.bind_some, hk] at e
        exact ⟨i, w, k, List.mem_range.mp hi, hb, hk, (Option.some.inj e).symm⟩
  · rintro ⟨i, w, k, hi, hb, hk, rfl⟩
    exact ⟨i, List.mem_range.mpr hi, by rw [hb, Option.bind_some, hk]; rfl⟩
theorem firstW_len (g : Bool) (bs : List Wd) (n : Nat) : (firstW g bs n).length ≤ n := by
  unfold firstW
  exact Nat.le_trans (List.length_filterMap_le _ _) (by rw [List.length_range]; exact Nat.le_refl _)
theorem firstW_start {g : Bool} {cs bs : List Wd} {most : Int} (hb : bs.length ≤ 8) : Wv g cs bs most (firstW g bs bs.length) [] (fun _ => false) 0 0 0 := by
  have z : ∀ v ∈ firstW g bs bs.length, v.hops = [] := fun v hv => by
    obtain ⟨i, w, k, _, _, _, rfl⟩ := mem_firstW.mp hv
    rfl
  refine ⟨fun v hv => ?_, fun i w k a b => mem_firstW.mpr ⟨i, w, k, (List.getElem?_eq_some_iff.mp a).1, a, b, rfl⟩, fun c hc => absurd hc (by simp), fun j k hj => absurd hj (by omega), fun c => by simp, rfl, List.nodup_nil, fun c hc => absurd hc (by simp), ?_, fun i j u v _ e1 e2 => ?_, fun u hu => ?_, fun j v e => ?_⟩
  · obtain ⟨i, w, k, _, a, b, rfl⟩ := mem_firstW.mp hv
    exact .box a b
  · have := firstW_len g bs bs.length
    rw [List.length_nil]
    omega
  · rw [z u (List.mem_of_getElem? e1)]
    exact Nat.zero_le _
  · rw [z u hu]
    exact Nat.zero_le _
  · rw [z v (List.mem_of_getElem? e)]
    exact Nat.zero_le _
end Tm
set_option Elab.async false
set_option linter.all false
set_option maxRecDepth 100000
set_option maxHeartbeats 1000000
namespace Tm
open PySem L2
theorem nodup_le {α : Type} : ∀ {F l : List α}, F.Nodup → (∀ x ∈ F, x ∈ l) → F.length ≤ l.length
  | [], _, _, _ => Nat.zero_le _
  | x :: F, l, h, hs => by
    obtain ⟨a, b, e⟩ := List.append_of_mem (hs x (by simp))
    subst e
    obtain ⟨h1, h2⟩ := List.nodup_cons.mp h
    have ih := nodup_le (l := a ++ b) h2 fun y hy => by
      have q := hs y (by simp [hy])
      have ne : y ≠ x := fun z => h1 (z ▸ hy)
      rcases List.mem_append.mp q with q | q
      · exact List.mem_append_left _ q
      · rcases List.mem_cons.mp q with q | q
        · exact absurd q ne
        · exact List.mem_append_right _ q
    rw [List.length_append] at ih ⊢
    rw [List.length_cons, List.length_cons]
    omega
theorem Rch.from {g : Bool} {cs bs : List Wd} {k : Wd} (h : Rch g cs bs k) : k ∈ (bs ++ cs).filterMap (keyBy g) := by
  cases h with
  | box a b => exact List.mem_filterMap.mpr ⟨_, List.mem_append_left _ a, b⟩
  | cell _ _ c d => exact List.mem_filterMap.mpr ⟨_, List.mem_append_right _ (List.mem_of_getElem? c), d⟩
def Pend (g : Bool) (F L : List Wd) (k : Wd) : Prop := k ∈ F ∨ ∃ u ∈ L, keyBy g u = some k
structure Lv (g : Bool) (cs bs F L : List Wd) : Prop where
  rch : ∀ k ∈ F, Rch g cs bs k
  nd : F.Nodup
  lft : ∀ w ∈ L, ∀ k, keyBy g w = some k → Rch g cs bs k
  box : ∀ w k, w ∈ bs → keyBy g w = some k → Pend g F L k
  cel : ∀ k1 ∈ F, ∀ c ∈ shown k1, ∀ w k, cs[c.toNat]? = some w → keyBy g w = some k → Pend g F L k
def wt : Wd → Nat
  | .gate _ _ => 2
  | _ => 1
section
variable {g : Bool} {cs bs F L : List Wd}
theorem Lv.start : Lv g cs bs [] bs := ⟨fun k h => absurd h (by simp), List.nodup_nil, fun w h k e => .box h e, fun w k h e => .inr ⟨w, h, e⟩, fun k h => absurd h (by simp)⟩
theorem Lv.done (h : Lv g cs bs F []) (k : Wd) : k ∈ F ↔ Rch g cs bs k := by
  have nl : ∀ k, Pend g F [] k → k ∈ F := fun k z => by
    rcases z with z | ⟨u, z, _⟩
    · exact z
    · cases z
  exact ⟨h.rch k, fun r => Rch.closed (P := fun x => x ∈ F) (fun w k a b => nl k (h.box w k a b)) (fun k c w k' a b c' d => nl k' (h.cel k a c b w k' c' d)) r⟩
theorem Lv.few (h : Lv g cs bs F L) (hc : cs.length ≤ 64) (hb : bs.length = 8) : F.length ≤ 72 := by
  have q := nodup_le h.nd fun x hx => (h.rch x hx).from
  have := List.length_filterMap_le (keyBy g) (bs ++ cs)
  rw [List.length_append] at this
  omega
theorem Lv.step {F' L' : List Wd} (h : Lv g cs bs F L) (mono : ∀ k, Pend g F L k → Pend g F' L' k) (rch : ∀ k ∈ F', Rch g cs bs k) (nd : F'.Nodup) (lft : ∀ w ∈ L', ∀ k, keyBy g w = some k → Rch g cs bs k)
    (new : ∀ k ∈ F', k ∈ F ∨ ∀ c ∈ shown k, ∀ w k', cs[c.toNat]? = some w → keyBy g w = some k' → Pend g F' L' k') : Lv g cs bs F' L' :=
  ⟨rch, nd, lft, fun w k a b => mono k (h.box w k a b), fun k1 a c b w k d e => by
    rcases new k1 a with z | z
    · exact mono k (h.cel k1 z c b w k d e)
    · exact z c b w k d e⟩
theorem Lv.drop {w : Wd} (h : Lv g cs bs F (L ++ [w])) (e : ∀ k, keyBy g w = some k → k ∈ F) : Lv g cs bs F L :=
  h.step (fun k z => by
    rcases z with z | ⟨u, hu, eu⟩
    · exact .inl z
    · rcases List.mem_append.mp hu with z | z
      · exact .inr ⟨u, z, eu⟩
      · rw [List.mem_singleton.mp z] at eu
        exact .inl (e k eu)) h.rch h.nd (fun w hw => h.lft w (List.mem_append_left _ hw)) fun k hk => .inl hk
theorem Lv.gate {a : Int} {y : Wd} (h : Lv true cs bs F (L ++ [.gate a y])) : Lv true cs bs F (L ++ [y]) := by
  have e : keyBy true (.gate a y) = keyBy true y := rfl
  refine h.step (fun k z => ?_) h.rch h.nd (fun w hw k ek => ?_) fun k hk => .inl hk
  · rcases z with z | ⟨u, hu, eu⟩
    · exact .inl z
    · rcases List.mem_append.mp hu with z | z
      · exact .inr ⟨u, List.mem_append_left _ z, eu⟩
      · rw [List.mem_singleton.mp z, e] at eu
        exact .inr ⟨y, List.mem_append_right _ (by simp), eu⟩
  · rcases List.mem_append.mp hw with z | z
    · exact h.lft w (List.mem_append_left _ z) k ek
    · rw [List.mem_singleton.mp z] at ek
      exact h.lft _ (List.mem_append_right _ (by simp)) k (e.trans ek)
theorem Lv.key {k0 : Wd} {X : List Wd} (h : Lv g cs bs F (L ++ [k0])) (hk : keyBy g k0 = some k0) (hn : k0 ∉ F) (hx : ∀ w, w ∈ X ↔ ∃ c ∈ shown k0, cs[c.toNat]? = some w) : Lv g cs bs (F ++ [k0]) (L ++ X) := by
  have r0 : Rch g cs bs k0 := h.lft k0 (List.mem_append_right _ (by simp)) k0 hk
  refine h.step (fun k z => ?_) (fun k z => ?_) ?_ (fun w hw k ek => ?_) fun k z => ?_
  · rcases z with z | ⟨u, hu, eu⟩
    · exact .inl (List.mem_append_left _ z)
    · rcases List.mem_append.mp hu with z | z
      · exact .inr ⟨u, List.mem_append_left _ z, eu⟩
      · rw [List.mem_singleton.mp z, hk] at eu
        cases eu
        exact .inl (List.mem_append_right _ (by simp))
  · rcases List.mem_append.mp z with z | z
    · exact h.rch k z
    · rw [List.mem_singleton.mp z]
      exact r0
  · exact List.nodup_append.mpr ⟨h.nd, by simp, fun x hx y hy z => hn (by rw [← List.mem_singleton.mp hy, ← z]; exact hx)⟩
  · rcases List.mem_append.mp hw with z | z
    · exact h.lft w (List.mem_append_left _ z) k ek
    · obtain ⟨c, hc, ew⟩ := (hx w).mp z
      exact .cell r0 hc ew ek
  · rcases List.mem_append.mp z with z | z
    · exact .inl z
    · rw [List.mem_singleton.mp z]
      exact .inr fun c hc w k' ew ek => .inr ⟨w, List.mem_append_right _ ((hx w).mpr ⟨c, hc, ew⟩), ek⟩
end
theorem cutV_mid {xs : List V} {b e : Int} (h0 : 0 ≤ b) (h1 : b ≤ e) (h2 : e ≤ xs.length) : cutV xs (some b) (some e) = (xs.drop b.toNat).take (e - b).toNat := by
  have q1 : HT.sIx xs.length 0 (some b) = b.toNat := by
    have := HT.sIx_nat xs.length 0 b.toNat
    rw [Int.toNat_of_nonneg h0] at this
    omega
  have q2 : HT.sIx xs.length xs.length (some e) = e.toNat := by
    have := HT.sIx_nat xs.length xs.length e.toNat
    rw [Int.toNat_of_nonneg (by omega)] at this
    omega
  unfold cutV
  rw [q1, q2]
  congr 1
  omega
theorem paired_app {α β : Type} {R : α → β → Prop} : ∀ {xs xs' : List α} {ys ys' : List β}, Paired R xs ys → Paired R xs' ys' → Paired R (xs ++ xs') (ys ++ ys')
  | _, _, _, _, .nil, h => h
  | _, _, _, _, .cons r t, h => .cons r (paired_app t h)
theorem paired_drop {α β : Type} {R : α → β → Prop} : ∀ (n : Nat) {xs : List α} {ys : List β}, Paired R xs ys → Paired R (xs.drop n) (ys.drop n)
  | 0, _, _, h => h
  | n + 1, _, _, .nil => .nil
  | n + 1, _, _, .cons _ t => paired_drop n t
theorem paired_take {α β : Type} {R : α → β → Prop} : ∀ (n : Nat) {xs : List α} {ys : List β}, Paired R xs ys → Paired R (xs.take n) (ys.take n)
  | 0, _, _, _ => .nil
  | n + 1, _, _, .nil => .nil
  | n + 1, _, _, .cons r t => .cons r (paired_take n t)
def wordsD (ws : List Wd) : PyData := .list (ws.map wdD)
theorem Wds.dp {K : PySem.W.Frag} {rows most : Int} {H : Hp} {c : Addr} {ws : List Wd} (h : Wds rows most H c ws) : Dp K H (.ref c) (wordsD ws) := by
  obtain ⟨vs, e, r⟩ := h.ex
  exact .lst (SqL.of e) (dp_words r)
end Tm
set_option Elab.async false
set_option linter.all false
set_option maxRecDepth 100000
set_option maxHeartbeats 1000000
set_option pp.maxSteps 600
set_option pp.deepTerms false
namespace Tm
open PySem L2
def HopAt (H : Hp) (h : Wd × Int) (v : V) : Prop := ∃ (t : Addr) (kv : V), v = .ref t ∧ H t = some (.tup [kv, .int h.2]) ∧ IsW H h.1 kv
theorem HopAt.tups {H H' : Hp} (t : Tups H H') {h : Wd × Int} {v : V} (q : HopAt H h v) : HopAt H' h v := by
  obtain ⟨a, kv, e1, e2, e3⟩ := q
  exact ⟨a, kv, e1, t _ _ e2, e3.tups t⟩
def WayAt (H : Hp) (x : Way) (v : V) : Prop := ∃ (t h : Addr) (hv : List V) (kv : V), v = .ref t ∧ H t = some (.tup [.int x.box, .ref h, kv]) ∧ H h = some (.tup hv) ∧ Paired (HopAt H) x.hops hv ∧ IsW H x.key kv
theorem WayAt.tups {H H' : Hp} (t : Tups H H') {x : Way} {v : V} (h : WayAt H x v) : WayAt H' x v := by
  obtain ⟨p, q, hv, kv, e1, e2, e3, e4, e5⟩ := h
  exact ⟨p, q, hv, kv, e1, t _ _ e2, t _ _ e3, Paired.mapP e4 fun _ _ => HopAt.tups t, e5.tups t⟩
structure WayL (H : Hp) (l : Addr) (vs : List V) (ws : List Way) : Prop where
  at_ : H l = some (.lst vs)
  is : Paired (WayAt H) ws vs
theorem WayL.len {H : Hp} {l : Addr} {vs : List V} {ws : List Way} (h : WayL H l vs ws) : vs.length = ws.length := (Paired.length h.is).symm
theorem WayL.go {H H' : Hp} {l : Addr} {vs : List V} {ws : List Way} (h : WayL H l vs ws) (t : Tups H H') (e : H' l = some (.lst vs)) : WayL H' l vs ws := ⟨e, Paired.mapP h.is fun _ _ => WayAt.tups t⟩
theorem WayL.same {H H' : Hp} {l : Addr} {vs : List V} {ws : List Way} (h : WayL H l vs ws) (s : Same H H') : WayL H' l vs ws := h.go (Same.tups s) (s _ _ h.at_)
theorem WayL.add {H H' : Hp} {l : Addr} {vs : List V} {ws : List Way} {v : V} {x : Way} (h : WayL H l vs ws) (t : Tups H H') (e : H' l = some (.lst vs)) (w : WayAt H' x v) : WayL (upd H' l (.lst (vs ++ [v]))) l (vs ++ [v]) (ws ++ [x]) := by
  have t2 : Tups H' (upd H' l (.lst (vs ++ [v]))) := Tups.upd (soft_lst e)
  exact ⟨upd_same, paired_add (Paired.mapP h.is fun _ _ q => (WayAt.tups t q).tups t2) (w.tups t2)⟩
def spFirstW : Sp := fun vs H Q _ => ∃ (b : Addr) (g : Bool) (bs : List Wd) (rows most : Int), vs = [.ref b, .bl g] ∧ Wds rows most H b bs ∧ bs.length ≤ 100 ∧ ∀ (l : Addr) (vs : List V) (H' : Hp), Same H H' → H l = none → WayL H' l vs (firstW g bs bs.length) → Q (.ref l) H'
abbrev s_first_ways : Stmt := top 33
abbrev N_first_ways : List Str := ["boxes", "gates", "keys", "word", "box", "key"]
abbrev P_first_ways : List Str := ["boxes", "gates"]
theorem sc_first_ways : FnScope N_first_ways P_first_ways (defScope s_first_ways) := ⟨rfl, rfl, rfl, by decide +kernel, rfl, by decide +kernel, by decide +kernel⟩
section
variable {P : Program} {w : World} {K : PySem.W.Frag} {mg : Str → Option Value} {base : Heap}
theorem ok_first_ways {f : Addr} {fd : FuncData} (F : Fun K "first_ways" "first_ways" s_first_ways f fd) (T : Tx mg) (D_key_by : Df P w K mg base 3 "key_by" P_key_by [] (spKeyBy 1)) : FnOk P w K mg base CX0 4 f fd P_first_ways spFirstW := by
  have sc := sc_first_ways
  refine F.ok sc (fun vs H Q E h => ?_) (fun cdv A outer s H vs Q E hr h => ?_)
  · obtain ⟨b, g, bs, rows, most, rfl, _⟩ := h
    rfl
  obtain ⟨b, g, bs, rows, most, rfl, ⟨⟨vs, hb, rb⟩, okb⟩, lb, k⟩ := h
  have hu := hu_of hr
  have hu64 := hr.units
  have lv := Paired.length rb
  refine ⟨_, ((pss_cons (ps_setLc (i := 2) (own := [("word", 3)]) (g := gName 3) (by rfl) sc.nd rfl rfl (sw_true rfl rfl rfl (by decide +kernel)) (pi_list (qv 0)) (blkOk_by (own := [("word", 3)]) (N := N_first_ways) (sc := defScope s_first_ways) (by decide +kernel)) (fun _ _ _ _ _ => (pg_name (i := 3) sc.nd rfl (by first | exact Or.inl rfl | exact Or.inr rfl))) (fun _ _ _ _ _ => pts_nil) (fun _ _ _ _ _ => (qcall D_key_by (by first | exact hr | exact hr.mono (by omega)) (pa_cons (qv 3) (pa_cons (qv 1) pa_nil)))))
  (pss_one (ps_ret (pe_lc (own := [("box", 4), ("key", 5)]) (g := gTup K 2 (gCons (gName 4) (gCons (gName 5) gNil))) (by rfl) sc.nd ((pi_enum2 false) (by rfl) T.enumerate (pa_cons (qv 2) pa_nil)) (blkOk_by (own := [("box", 4), ("key", 5)]) (N := N_first_ways) (sc := defScope s_first_ways) (by decide +kernel)) (fun _ _ _ _ _ => (pg_tup (by rfl) (pgs_cons (pg_name (i := 4) sc.nd rfl (by first | exact Or.inl rfl | exact Or.inr rfl)) (pgs_cons (pg_name (i := 5) sc.nd rfl (by first | exact Or.inl rfl | exact Or.inr rfl)) pgs_nil)))) (fun _ _ _ _ _ => (pts_one (pt_cmpR op_notN (qv 5) pe_non (nomark _)))) (fun _ _ _ _ _ => (pe_tup (pa_cons (qv 4) (pa_cons (pe_tup pa_nil) (pa_cons (qv 5) pa_nil))))))))) : PSs _ (_ :: _) _), ?_⟩
  refine ⟨b, rfl, ⟨_, SqL.of hb⟩, fun D hD => ?_⟩
  refine lc_by (n := vs.length) (fun i H2 => Same H H2 ∧ ∃ us, H2 D = some (.lst us) ∧ Paired (fun u o => optW H2 o u) us ((bs.take i).map (keyBy g))) ⟨same_new hD _, [], upd_same, .nil⟩ ?_ ?_ ?_ ?_
  · rintro i H2 hi ⟨s2, _⟩
    exact ⟨_, _, SqL.of (s2 _ _ hb), List.getElem?_eq_getElem hi⟩
  · rintro H2 ⟨s2, _⟩
    exact ⟨_, SqL.of (s2 _ _ hb), Nat.le_refl _⟩
  · rintro i H2 v H2' hi ⟨s2, us, d2, r2⟩ ⟨rfl, hv⟩
    have hv := hv _ (SqL.of (s2 _ _ hb))
    obtain ⟨x, v', g1, g2, g3⟩ := Paired.get2 (i := i) rb (by omega)
    rw [hv] at g2
    cases g2
    have okx := okb x (List.mem_of_getElem? g1)
    refine ⟨rfl, ?_⟩
    refine ⟨v, x, g, rfl, g3.tups (Same.tups s2), gdep_ok okx, fun u hu' => ?_⟩
    have lu := Paired.length r2
    rw [List.length_map, List.length_take] at lu
    have tp : Tups H2' (upd H2' D (.lst (us ++ [u]))) := Tups.upd (soft_lst d2)
    refine ⟨_, d2, small1000 (by omega), fun b' o e => ?_, us ++ [u], upd_same, ?_⟩
    · rw [upd_ne (ne_of_none e hD)]
      exact s2 _ _ e
    · rw [List.take_succ, g1, List.map_append]
      exact paired_add (Paired.mapP r2 fun _ _ q => q.tups tp) (hu'.tups tp)
  rintro H2 ⟨s2, us, d2, r2⟩
  rw [lv.symm, List.take_length] at r2
  have lu := Paired.length r2
  rw [List.length_map] at lu
  refine ⟨D, _, rfl, SqL.of d2, fun D' hD' => ?_⟩
  have nD : H D' = none := s2.free hD'
  refine lc_by (n := us.length) (fun i H3 => Same H2 H3 ∧ ∃ ws, WayL H3 D' ws (firstW g bs i)) ⟨same_new hD' _, [], upd_same, .nil⟩ ?_ ?_ ?_ ?_
  · rintro i H3 hi ⟨s3, _⟩
    exact ⟨_, _, SqL.of (s3 _ _ d2), List.getElem?_eq_getElem hi⟩
  · rintro H3 ⟨s3, _⟩
    exact ⟨_, SqL.of (s3 _ _ d2), rfl⟩
  · rintro i H3 v H3' hi ⟨s3, ws, wl⟩ ⟨T', y, rfl, hT, rfl, hy⟩
    have hy := hy _ (SqL.of (s3 _ _ d2))
    have st := same_new hT (.tup [.int (i : Nat), y])
    obtain ⟨y', o, g1, g2, g3⟩ := Paired.get2 r2 hi
    rw [hy] at g1
    cases g1
    rw [List.getElem?_map] at g2
    obtain ⟨x, gx, ex⟩ := Option.map_eq_some_iff.mp g2
    have s4 := s3.trans st
    refine ⟨_, _, rfl, SqT.of upd_same, rfl, _, _, rfl, _, _, rfl, rfl, rfl, ?_⟩
    have lw : ws.length ≤ i := by
      rw [wl.len]
      exact firstW_len _ _ _
    cases o with
    | none =>
      have e : y = .non := g3
      subst e
      refine ⟨rfl, _, rfl, iteF ⟨s4, ws, ?_⟩⟩
      have e2 : firstW g bs (i + 1) = firstW g bs i := by
        rw [firstW_succ, gx, Option.bind_some, ex]
        exact List.append_nil _
      rw [e2]
      exact wl.same st
    | some kx =>
      have g4 : IsW H2 kx y := g3
      have ny : ¬ y = .non := fun z => by
        rw [z] at g4
        cases kx with
        | num n => cases (show V.non = V.int n from g4)
        | key b e a r => obtain ⟨_, z, _⟩ := g4; cases z
        | gate _ _ => obtain ⟨_, _, z, _⟩ := g4; cases z
      refine ⟨rfl, _, rfl, iteT' (by rw [decide_eq_false ny]; rfl) ?_⟩
      refine ⟨(by decide : 0 ≤ sizeLine), fun h hh => ⟨(by decide : 3 ≤ sizeLine), fun t ht => ?_⟩⟩
      have s5 := same_new hh (.tup [])
      have s6 := same_new ht (.tup [.int (i : Nat), .ref h, y])
      have s7 := (st.trans s5).trans s6
      refine ⟨ws, s7 _ _ wl.at_, small1000 (by omega), ?_, ws ++ [.ref t], ?_⟩
      · intro b' o' e'
        rw [upd_ne (ne_of_none e' hD')]
        exact s7 _ _ (s3 _ _ e')
      · have e2 : firstW g bs (i + 1) = firstW g bs i ++ [⟨(i : Int), [], kx⟩] := by
          rw [firstW_succ, gx, Option.bind_some, ex]
          rfl
        rw [e2]
        exact wl.add (Same.tups s7) (s7 _ _ wl.at_) ⟨t, h, [], y, rfl, upd_same, s6 _ _ upd_same, .nil, ((g4.tups (Same.tups s3)).tups (Same.tups s7))⟩
  · rintro H3 ⟨s3, ws, wl⟩
    have e : us.length = bs.length := lu
    rw [e] at wl
    exact k D' ws H3 (s2.trans s3) nD wl
end
end Tm
set_option Elab.async false
set_option linter.all false
set_option maxRecDepth 100000
set_option maxHeartbeats 1000000
set_option pp.maxSteps 600
set_option pp.deepTerms false
namespace Tm
open PySem L2
theorem rApp_imp {x : V} {vs : List V} {H : Hp} {Q Q' : VK} (h : rAppend x vs H Q) (m : ∀ v H', Q v H' → Q' v H') : rAppend x vs H Q' := by
  obtain ⟨l', xs, y', e1, e2, e3, e4, e5⟩ := h
  exact ⟨l', xs, y', e1, e2, e3, e4, m _ _ e5⟩
def spWays : Sp := fun vs H Q _ => ∃ (c b : Addr) (g : Bool) (cs bs : List Wd) (rows most : Int), vs = [.ref c, .ref b, .bl g] ∧ Wds rows most H c cs ∧ (cs.length : Int) = most ∧ most ≤ 64 ∧ Wds rows most H b bs ∧ bs.length = 8 ∧
  ∀ (l : Addr) (vs : List V) (ws : List Way) (H' : Hp), Same H H' → H l = none → WayL H' l vs ws → ws.length ≤ 72 → (∀ v ∈ ws, Vw g cs bs v) → (∀ v, Vw g cs bs v → ∃ u ∈ ws, u.key = v.key ∧ u.hops.length ≤ v.hops.length) → Q (.ref l) H'
abbrev s_all_ways : Stmt := top 35
abbrev N_all_ways : List Str := ["cells", "boxes", "gates", "ways", "come_by", "at", "cell", "box", "hops", "key", "found"]
abbrev P_all_ways : List Str := ["cells", "boxes", "gates"]
theorem sc_all_ways : FnScope N_all_ways P_all_ways (defScope s_all_ways) := ⟨rfl, rfl, rfl, by decide +kernel, rfl, by decide +kernel, by decide +kernel⟩
section
variable {P : Program} {w : World} {K : PySem.W.Frag} {mg : Str → Option Value} {base : Heap}
theorem ok_all_ways {f : Addr} {fd : FuncData} (F : Fun K "all_ways" "all_ways" s_all_ways f fd) (T : Tx mg) (hset : mg "set" = none) (D_first_ways : Df P w K mg base 4 "first_ways" P_first_ways [] spFirstW) (D_shown_cells : Df P w K mg base 1 "shown_cells" P_shown_cells [] spShown) (D_key_by : Df P w K mg base 3 "key_by" P_key_by [] (spKeyBy 1)) : FnOk P w K mg base CX0 5 f fd P_all_ways spWays := by
  have sc := sc_all_ways
  refine F.ok sc (fun vs H Q E h => ?_) (fun cdv A outer s H vs Q E hr h => ?_)
  · obtain ⟨c, b, g, cs, bs, rows, most, rfl, _⟩ := h
    rfl
  obtain ⟨c, b, g, cs, bs, rows, most, rfl, wc, lc, hm, wb, lb, k⟩ := h
  have hu := hu_of hr
  have hu64 := hr.units
  obtain ⟨⟨cvs, hc, rc⟩, okc⟩ := id wc
  have lcv := Paired.length rc
  refine ⟨_, ((pss_cons (ps_set (i := 3) sc.nd rfl (by first | exact Or.inl rfl | exact Or.inr rfl) (qcall D_first_ways (by first | exact hr | exact hr.mono (by omega)) (pa_cons (qv 1) (pa_cons (qv 2) pa_nil))))
  (pss_cons (ps_set (i := 4) sc.nd rfl (by first | exact Or.inl rfl | exact Or.inr rfl) (pe_callTy0 cr_set0 (by rfl) hset (by decide +kernel)))
  (pss_cons (ps_set (i := 5) sc.nd rfl (by first | exact Or.inl rfl | exact Or.inr rfl) pe_int)
  (pss_cons (ps_while PassesOwn.never (pt_cmpR oq_lt (qv 5) (pe_callB (cq_len K) (by rfl) T.len (by decide +kernel) (pa_cons (qv 3) pa_nil)) (nomark _)) (pss_cons (ps_asg (pe_ix (iq K hu) (qv 3) (qv 5) (fun _ _ => rfl)) (pg_tup (by rfl) (pgs_cons (pg_name (i := 7) sc.nd rfl (by first | exact Or.inl rfl | exact Or.inr rfl)) (pgs_cons (pg_name (i := 8) sc.nd rfl (by first | exact Or.inl rfl | exact Or.inr rfl)) (pgs_cons (pg_name (i := 9) sc.nd rfl (by first | exact Or.inl rfl | exact Or.inr rfl)) pgs_nil)))))
  (pss_cons (ps_aug (i := 5) sc.nd rfl (by first | exact Or.inl rfl | exact Or.inr rfl) pe_int ip_add)
  (pss_one (ps_for PassesOwn.never rfl (pi_list (qcall D_shown_cells (by first | exact hr | exact hr.mono (by omega)) (pa_cons (qv 9) pa_nil))) (pg_name (i := 6) sc.nd rfl (by first | exact Or.inl rfl | exact Or.inr rfl))
  (pss_cons (ps_set (i := 10) sc.nd rfl (by first | exact Or.inl rfl | exact Or.inr rfl) (qcall D_key_by (by first | exact hr | exact hr.mono (by omega)) (pa_cons (pe_ix (iq K hu) (qv 0) (qv 6) (fun _ _ => rfl)) (pa_cons (qv 2) pa_nil))))
  (pss_cons (ps_if (PW.pt (pw_and (pt_cmpR op_notN (qv 10) pe_non (nomark _)) (pw_and1 (pt_cmpR op_ninS (qv 6) (qv 4) (by rfl)))))
  (pss_one (ps_expr (pe_bm PySem.F.plainAttrs_list PySem.F.slot_list_append PySem.F.type_list_append mt_append (qv 3) (pa_cons (pe_tup (pa_cons (qv 7) (pa_cons (pe_op ((op_catT0).or (op_catT)) (qv 8) (pe_tup (pa_cons (pe_tup (pa_cons (qv 9) (pa_cons (qv 6) pa_nil))) pa_nil))) (pa_cons (qv 10) pa_nil)))) pa_nil))))
  pss_nil)
  (pss_one (ps_expr (pe_bm PySem.F.plainAttrs_set PySem.F.slot_set_add PySem.F.type_set_add mt_sadd (qv 4) (pa_cons (qv 6) pa_nil)))))))))))
  (pss_one (ps_ret (qv 3))))))) : PSs _ (_ :: _) _), ?_⟩
  refine ⟨b, g, bs, rows, most, rfl, wb, by omega, fun l vs0 H1 s1 nl wl0 => ?_⟩
  refine ⟨rfl, fun sA hsA => ?_⟩
  have nsA : H sA = none := s1.free hsA
  have lne : l ≠ sA := ne_of_none wl0.at_ hsA
  have s2 := same_new hsA (.set (fun _ => false) 0)
  have wv0 := firstW_start (g := g) (cs := cs) (most := most) (Nat.le_of_eq lb)
  refine ⟨fun m σ H2 => ∃ (a d : Nat) (x1 x2 x3 x4 x5 : Option V) (vs : List V) (ks : List Way) (cov : List Int) (S : Int → Bool) (n : Nat), σ = [some (.ref c), some (.ref b), some (.bl g), some (.ref l), some (.ref sA), some (.int a), x1, x2, x3, x4, x5] ∧ m = 100 - a ∧ a ≤ ks.length ∧ Same H H2 ∧ WayL H2 l vs ks ∧ H2 sA = some (.set S n) ∧ Wv g cs bs most ks cov S n a d ∧ (∀ v, ks[a]? = some v → d ≤ v.hops.length), ⟨100, 0, 0, _, _, _, _, _, vs0, _, [], _, 0, rfl, rfl, Nat.zero_le _, s1.trans s2, wl0.same s2, upd_same, wv0, fun _ _ => Nat.zero_le _⟩, ?_⟩
  rintro m σ H2 ⟨a, d0, x1, x2, x3, x4, x5, vs, ks, cov, S, n, rfl, rfl, ha, t2, wl, hS, wv, hd0⟩
  have c64 := wv.cov64 hm
  have few := wv.few
  have lvk := wl.len
  refine .inl ⟨vs, SqL.of wl.at_, _, rfl, ?_⟩
  by_cases q0 : (a : Int) < (vs.length : Int)
  rotate_left
  · refine iteF' (decide_eq_false q0) ?_
    have ea : a = ks.length := by omega
    subst ea
    exact k l vs ks H2 t2 nl wl (by omega) wv.vw fun v hv => wv.least hv
  refine iteT' (decide_eq_true q0) ?_
  have ha' : a < ks.length := by omega
  obtain ⟨way, vv, gk, gv, wt, wh, hv, kv, ev, ht, hh, hop, ik⟩ := Paired.get2 (i := a) wl.is ha'
  have wv : Wv g cs bs most ks cov S n a way.hops.length := wv.deep fun u hu => by
    have h1 := wv.top u hu
    have h2 := hd0 way gk
    omega
  refine ⟨fun σ' H' => ∃ (d : Nat) (x1 x2 x3 x4 x5 : Option V) (vs : List V) (ks : List Way) (cov : List Int) (S : Int → Bool) (n : Nat), σ' = [some (.ref c), some (.ref b), some (.bl g), some (.ref l), some (.ref sA), some (.int ((a : Int) + 1)), x1, x2, x3, x4, x5] ∧ a + 1 ≤ ks.length ∧ Same H H' ∧ WayL H' l vs ks ∧ H' sA = some (.set S n) ∧ Wv g cs bs most ks cov S n (a + 1) d ∧ (∀ v, ks[a + 1]? = some v → d ≤ v.hops.length), ?_, ?_⟩
  · rintro σ' H' ⟨d', y1, y2, y3, y4, y5, vs', ks', cov', S', n', rfl, h1, h2, h3, h4, h5, h6⟩
    exact ⟨100 - (a + 1), by omega, a + 1, d', y1, y2, y3, y4, y5, vs', ks', cov', S', n', rfl, rfl, h1, h2, h3, h4, h5, h6⟩
  refine .inl ⟨_, _, SqL.of wl.at_, atI_nat gv, ?_⟩
  rw [ev]
  refine ⟨wt, _, rfl, SqT.of ht, rfl, _, _, rfl, _, _, rfl, _, _, rfl, rfl, ?_⟩
  refine ⟨_, rfl, _, _, rfl, rfl, ?_⟩
  have win : way ∈ ks := List.mem_of_getElem? gk
  have vway := wv.vw way win
  have okk := vway.rch.ok okc wb.ok
  have lw := wv.low a way gk
  have lhv := Paired.length hop
  obtain ⟨box, hops, kk⟩ := way
  dsimp only at ik okk ht hop lw lhv wv
  cases kk with
  | num n => cases okk.2
  | gate a' w' => cases okk.2
  | key kb ke ka kr =>
  refine ⟨kv, kb, ke, ka, kr, rows, most, rfl, ik, okk.1, hm, fun lS H3 s3 nS hS3 => ?_⟩
  refine ⟨lS, rfl, ⟨_, SqL.of hS3⟩, ?_⟩
  have lSl : lS ≠ l := (ne_of_none wl.at_ nS).symm
  have lSs : lS ≠ sA := (ne_of_none hS nS).symm
  generalize hsh : shown (.key kb ke ka kr) = sh at hS3
  refine for_by (n := (sh.map V.int).length) (fun i σ' H4 => ∃ (x1 x5 : Option V) (vs : List V) (ks : List Way) (cov : List Int) (S : Int → Bool) (n : Nat), σ' = [some (.ref c), some (.ref b), some (.bl g), some (.ref l), some (.ref sA), some (.int ((a : Int) + 1)), x1, some (.int box), some (.ref wh), some kv, x5] ∧ Same H H4 ∧ H4 lS = some (.lst (sh.map V.int)) ∧ H4 wh = some (.tup hv) ∧ Paired (HopAt H4) hops hv ∧ IsW H4 (.key kb ke ka kr) kv ∧ WayL H4 l vs ks ∧ H4 sA = some (.set S n) ∧ Wv g cs bs most ks cov S n a hops.length ∧ a < ks.length ∧ ks[a]? = some ⟨box, hops, .key kb ke ka kr⟩ ∧ ∀ d ∈ sh.take i, d ∈ cov)
    ⟨_, _, vs, ks, cov, S, n, rfl, t2.trans s3, hS3, s3 _ _ hh, Paired.mapP hop fun _ _ => HopAt.tups (Same.tups s3), ik.tups (Same.tups s3), wl.same s3, s3 _ _ hS, wv, ha', gk, fun d hd => absurd hd (by simp)⟩ ?_ ?_ ?_ ?_
  · rintro i σ' H4 hi ⟨_, _, _, _, _, _, _, _, _, hl4, _⟩
    exact ⟨_, _, SqL.of hl4, List.getElem?_eq_getElem hi⟩
  · rintro σ' H4 ⟨_, _, _, _, _, _, _, _, _, hl4, _⟩
    exact ⟨_, SqL.of hl4, Nat.le_refl _⟩
  · rintro i σ' H4 x H4' hi ⟨y1, y5, vs4, ks4, cov4, S4, n4, rfl, t4, hl4, hh4, hop4, ik4, wl4, hS4, wv4, ha4, hk4, cv4⟩ ⟨rfl, hx⟩
    have hx := hx _ (SqL.of hl4)
    rw [List.length_map] at hi
    rw [List.getElem?_map, List.getElem?_eq_getElem hi] at hx
    have hx : x = V.int sh[i] := (Option.some.inj hx).symm
    subst hx
    have hin : sh[i] ∈ shown (.key kb ke ka kr) := hsh ▸ List.getElem_mem hi
    have htk : sh.take (i + 1) = sh.take i ++ [sh[i]] := by rw [List.take_succ, List.getElem?_eq_getElem hi]; rfl
    generalize sh[i] = cell at hin htk
    have hcell := shown_in hin okk.1
    obtain ⟨y, v, g1, g2, g3⟩ := Paired.get2 (i := cell.toNat) rc (by omega)
    have okx := okc y (List.mem_of_getElem? g1)
    have hat : atI cvs cell = some v := by
      have q : cell = ((cell.toNat : Nat) : Int) := by omega
      rw [q]
      exact atI_nat g2
    have c64 := wv4.cov64 hm
    have few := wv4.few
    have lvk := wl4.len
    refine .inl ⟨_, _, SqL.of (t4 _ _ hc), hat, ?_⟩
    refine ⟨v, y, g, rfl, g3.tups (Same.tups t4), gdep_ok okx, fun u hu' => ?_⟩
    dsimp only [gName]
    refine tSeq.cut (fun σ' H5 => ∃ (vs5 : List V) (ks5 : List Way), σ' = [some (.ref c), some (.ref b), some (.bl g), some (.ref l), some (.ref sA), some (.int ((a : Int) + 1)), some (.int cell), some (.int box), some (.ref wh), some kv, some u] ∧ Same H H5 ∧ H5 lS = some (.lst (sh.map V.int)) ∧ H5 wh = some (.tup hv) ∧ Paired (HopAt H5) hops hv ∧ IsW H5 (.key kb ke ka kr) kv ∧ WayL H5 l vs5 ks5 ∧ H5 sA = some (.set S4 n4) ∧ ks5[a]? = some ⟨box, hops, .key kb ke ka kr⟩ ∧ ks4.length ≤ ks5.length ∧ ((ks5 = ks4 ∧ (S4 cell = true ∨ keyBy g y = none)) ∨ (∃ v : Way, S4 cell = false ∧ keyBy g y = some v.key ∧ Vw g cs bs v ∧ v.hops.length = hops.length + 1 ∧ v.hops.length ≤ ks4.length ∧ ks5 = ks4 ++ [v]))) ?_ ?_
    · rintro σ' H5 ⟨vs5, ks5, rfl, t5, hl5, hh5, hop5, ik5, wl5, hS5, hk5, le5, alt⟩
      obtain ⟨cov', wv', cin, sub⟩ := wv4.look hcell g1 alt (Nat.le_of_lt ha4)
      refine ⟨.inr (.inr (.inr ⟨rfl, _, _, hS5⟩)), sA, S4, n4, cell, rfl, rfl, hS5, by have := wv4.num; omega, ?_⟩
      have tp : Tups H5 (upd H5 sA (.set (fun k' => S4 k' || decide (k' = cell)) (if S4 cell then n4 else n4 + 1))) := fun p xs e => by
        rw [upd_ne]
        · exact e
        · rintro rfl
          rw [hS5] at e
          cases e
      refine ⟨_, _, vs5, ks5, cov', _, _, rfl, ?_, ?_, tp _ _ hh5, Paired.mapP hop5 fun _ _ => HopAt.tups tp, ik5.tups tp, wl5.go tp (by rw [upd_ne lne]; exact wl5.at_), upd_same, wv', by omega, hk5, fun d hd => ?_⟩
      · intro b' o e
        rw [upd_ne (ne_of_none e nsA)]
        exact t5 _ _ e
      · rw [upd_ne lSs]
        exact hl5
      · rw [htk] at hd
        rcases List.mem_append.mp hd with z | z
        · exact sub d (cv4 d z)
        · rw [List.mem_singleton.mp z]; exact cin
    · intro fin
      cases hky : keyBy g y with
      | none =>
        rw [hky] at hu'
        have e : u = .non := hu'
        subst e
        refine ⟨rfl, _, rfl, iteF (fin _ _ ⟨vs4, ks4, rfl, t4, hl4, hh4, hop4, ik4, wl4, hS4, hk4, Nat.le_refl _, .inl ⟨rfl, .inr hky⟩⟩)⟩
      | some k' =>
        rw [hky] at hu'
        have iu : IsW H4' k' u := hu'
        have nu : ¬ u = .non := fun z => by
          rw [z] at iu
          cases k' with
          | num n => cases (show V.non = V.int n from iu)
          | key b e a r => obtain ⟨_, z, _⟩ := iu; cases z
          | gate _ _ => obtain ⟨_, _, z, _⟩ := iu; cases z
        refine ⟨rfl, _, rfl, iteT' (by rw [decide_eq_false nu]; rfl) ?_⟩
        refine ⟨cell, sA, S4, n4, rfl, rfl, hS4, _, rfl, ?_⟩
        cases hsc : S4 cell with
        | true => exact iteF (fin _ _ ⟨vs4, ks4, rfl, t4, hl4, hh4, hop4, ik4, wl4, hS4, hk4, Nat.le_refl _, .inl ⟨rfl, .inl hsc⟩⟩)
        | false =>
          refine iteT ?_
          have rk' : Vw g cs bs ⟨box, hops ++ [(.key kb ke ka kr, cell)], k'⟩ := .hop vway hin g1 hky
          refine ⟨.inl ⟨rfl, _, SqL.of wl4.at_⟩, ?_⟩
          refine ⟨(by decide : 2 ≤ sizeLine), fun p1 hp1 => ⟨(by decide : 1 ≤ sizeLine), fun p2 hp2 => ?_⟩⟩
          have u1 := same_new hp1 (.tup [kv, .int cell])
          have u2 := same_new hp2 (.tup [.ref p1])
          have u12 := u1.trans u2
          have e1 := u2 _ _ (upd_same (H := H4') (a := p1) (o := .tup [kv, .int cell]))
          have aft : ∀ (hq : Addr) (hvq : List V) (H6 : Hp), Same (upd (upd H4' p1 (.tup [kv, .int cell])) p2 (.tup [.ref p1])) H6 → H6 hq = some (.tup hvq) → hvq = hv ++ [.ref p1] → ∀ t, H6 t = none → rAppend (.ref l) [.ref t] (upd H6 t (.tup [.int box, .ref hq, u])) (fun _ H7 => ∃ (vs5 : List V) (ks5 : List Way), Same H H7 ∧ H7 lS = some (.lst (sh.map V.int)) ∧ H7 wh = some (.tup hv) ∧ Paired (HopAt H7) hops hv ∧ IsW H7 (.key kb ke ka kr) kv ∧ WayL H7 l vs5 ks5 ∧ H7 sA = some (.set S4 n4) ∧ ks5[a]? = some ⟨box, hops, .key kb ke ka kr⟩ ∧ ks4.length ≤ ks5.length ∧ ((ks5 = ks4 ∧ (S4 cell = true ∨ keyBy g y = none)) ∨ (∃ v : Way, S4 cell = false ∧ keyBy g y = some v.key ∧ Vw g cs bs v ∧ v.hops.length = hops.length + 1 ∧ v.hops.length ≤ ks4.length ∧ ks5 = ks4 ++ [v]))) := by
            intro hq hvq H6 s6 e6 eq t ht6
            subst eq
            have s7 := (u12.trans s6).trans (same_new ht6 (.tup [.int box, .ref hq, u]))
            have tp : Tups (upd H6 t (.tup [.int box, .ref hq, u])) (upd (upd H6 t (.tup [.int box, .ref hq, u])) l (.lst (vs4 ++ [.ref t]))) := Tups.upd (soft_lst (s7 _ _ wl4.at_))
            have tp2 := Tups.trans (Same.tups s7) tp
            have hopN : Paired (HopAt (upd H6 t (.tup [.int box, .ref hq, u]))) (hops ++ [(.key kb ke ka kr, cell)]) (hv ++ [.ref p1]) := paired_add (Paired.mapP hop4 fun _ _ => HopAt.tups (Same.tups s7)) ⟨p1, kv, rfl, (s6.trans (same_new ht6 _)) _ _ e1, ik4.tups (Same.tups s7)⟩
            refine ⟨l, vs4, .ref t, rfl, rfl, s7 _ _ wl4.at_, small1000 (by omega), vs4 ++ [.ref t], ks4 ++ [⟨box, hops ++ [(.key kb ke ka kr, cell)], k'⟩], ?_, ?_, tp2 _ _ hh4, Paired.mapP hop4 fun _ _ => HopAt.tups tp2, ik4.tups tp2, wl4.add (Same.tups s7) (s7 _ _ wl4.at_) ⟨t, hq, hv ++ [.ref p1], u, rfl, upd_same, (same_new ht6 _) _ _ e6, hopN, iu.tups (Same.tups s7)⟩, ?_, ?_, ?_, .inr ⟨_, hsc, hky, rk', by rw [List.length_append]; rfl, by rw [List.length_append, List.length_singleton]; omega, rfl⟩⟩
            · intro b' o e
              rw [upd_ne (ne_of_none e nl)]
              exact s7 _ _ (t4 _ _ e)
            · rw [upd_ne lSl]
              exact s7 _ _ hl4
            · rw [upd_ne lne.symm]
              exact s7 _ _ hS4
            · rw [List.getElem?_append_left ha4]
              exact hk4
            · rw [List.length_append]
              omega
          have fin2 : ∀ H7, (∃ (vs5 : List V) (ks5 : List Way), Same H H7 ∧ H7 lS = some (.lst (sh.map V.int)) ∧ H7 wh = some (.tup hv) ∧ Paired (HopAt H7) hops hv ∧ IsW H7 (.key kb ke ka kr) kv ∧ WayL H7 l vs5 ks5 ∧ H7 sA = some (.set S4 n4) ∧ ks5[a]? = some ⟨box, hops, .key kb ke ka kr⟩ ∧ ks4.length ≤ ks5.length ∧ ((ks5 = ks4 ∧ (S4 cell = true ∨ keyBy g y = none)) ∨ (∃ v : Way, S4 cell = false ∧ keyBy g y = some v.key ∧ Vw g cs bs v ∧ v.hops.length = hops.length + 1 ∧ v.hops.length ≤ ks4.length ∧ ks5 = ks4 ++ [v]))) → _ := fun H7 ⟨v5, k5, h1, h2, h3, h4, h5, h6⟩ => fin _ H7 ⟨v5, k5, rfl, h1, h2, h3, h4, h5, h6⟩
          have lh : hv.length ≤ 1000 := by omega
          cases hv with
          | nil =>
            refine .inl ⟨wh, p2, _, rfl, rfl, SqT.of (u12 _ _ hh4), SqT.of upd_same, (by decide : 3 ≤ sizeLine), fun t ht => ?_⟩
            exact rApp_imp (aft p2 [.ref p1] _ (Same.refl _) upd_same rfl t ht) fun _ => fin2
          | cons h0 hr0 =>
            refine .inr ⟨wh, p2, _, _, rfl, rfl, SqT.of (u12 _ _ hh4), SqT.of upd_same, by simp, ?_, (fun z => by cases z), fun _ p3 hp3 => ⟨(by decide : 3 ≤ sizeLine), fun t ht => ?_⟩⟩
            · rw [List.length_cons, List.length_singleton]
              rw [List.length_cons] at lh
              exact Nat.le_of_lt (Nat.lt_of_le_of_lt (show _ ≤ 10000 by omega) (by decide))
            · exact rApp_imp (aft p3 _ _ (same_new hp3 _) upd_same rfl t ht) fun _ => fin2
  · rintro σ' H4 ⟨y1, y5, vs4, ks4, cov4, S4, n4, rfl, t4, hl4, hh4, hop4, ik4, wl4, hS4, wv4, ha4, hk4, cv4⟩
    refine ⟨hops.length, _, _, _, _, _, vs4, ks4, cov4, S4, n4, rfl, ha4, t4, wl4, hS4, wv4.next hk4 rfl (fun d hd => ?_), fun v e => wv4.srt a (a + 1) _ v (Nat.le_succ _) hk4 e⟩
    rw [hsh] at hd
    refine cv4 d ?_
    rw [List.length_map, List.take_length]
    exact hd
end
end Tm
set_option Elab.async false
set_option linter.all false
set_option maxRecDepth 100000
set_option maxHeartbeats 1000000
namespace L2
open PySem PySem.Spec PyProof.Rows
section
variable {X : Cx} {tg : Expr}
theorem cq_any (K : PySem.W.Frag) (hc : X.calm = true) (hK : X.K = K := by rfl) : CallR X (.builtin "any") (rAny K) := hK ▸ cr_any hc
theorem pi_listK (K : PySem.W.Frag) {l : Expr} {tl : TE} (hl : PE X l tl) (hK : X.K = K := by rfl) : PI X tg l (iList K tl) := hK ▸ pi_list hl
def tTru (K : PySem.W.Frag) (ta : TE) : TT := fun σ H Q => ta σ H fun x H' => ∃ k, TruV K x H' k ∧ Q k H'
theorem pt_truthK (K : PySem.W.Frag) {a : Expr} {ta : TE} (ha : PE X a ta) (he : ∀ whole, isTrue a X.env whole = (do let v ← whole; standAt a.pos; holding [v] (truthy v))) (hK : X.K = K := by rfl) :
    PT X a (tTru K ta) := hK ▸ pt_truth ha he
theorem pe_bmK (K : PySem.W.Frag) {o e : Expr} {es : List Expr} {to : TE} {t : TA} {name : Str} {apos cpos : Pos} {T id : String} {r : V → List V → Hp → VK → Prop} (pa : PlainAttrs T) (slot : Slot T name id) (hty : typeOf (.builtin id) = pure (.type "method_descriptor")) (hm : MtR X id r) (ho : PE X o to) (ha : PA X (e :: es) t)
    (hK : X.K = K := by rfl) (h1 : attributeBase o name X.env (eval o X.env) = eval o X.env := by rfl)
    (h2 : ((backTo cpos (starEach (e :: es) X.env)).all (fun x => !x.1) && (backToKw cpos (keywordEach [] X.env)).all (fun x => x.1.isSome) && decide ((e :: es).length + ([] : List Keyword).length + (if ([] : List Keyword).isEmpty then 0 else 1) < 30)) = true := by rfl)
    (h3 : (apos.endLine == cpos.line) = true := by rfl) (h4 : starEach (e :: es) X.env = (false, eval e X.env) :: starEach es X.env := by rfl) (h5 : (backTo cpos (starEach es X.env)).any (·.1) = false := by rfl) :
    PE X (.Call (.Attribute o name apos) (e :: es) [] cpos) (tBM K T r to t) := hK ▸ pe_bm pa slot hty hm ho ha h1 h2 h3 h4 h5
end
end L2
set_option Elab.async false
set_option linter.all false
set_option maxRecDepth 100000
set_option maxHeartbeats 1000000
set_option pp.maxSteps 600
set_option pp.deepTerms false
namespace Tm
open PySem L2
def letB (ks : List Wd) (cell : Int) (l : Nat) : Bool := ks.any fun k => touchB k cell l
theorem join_letters (ks : List Wd) (cell : Int) : Txt.join (Str.ofString "") (([103, 115].filter (letB ks cell)).map fun c => (⟨#[c]⟩ : Str)) = lettersM ks cell := by
  have h := join_signs ([103, 115].filter (letB ks cell))
  have e : ∀ s : Str, s = ⟨s.cps.toList.toArray⟩ := fun s => by cases s; simp
  rw [e (Txt.join _ _), h]
  rfl
def spLetters : Sp := fun vs H Q _ => ∃ (c : Addr) (cell : Int) (ks : List Wd) (rows most : Int), vs = [.int cell, .ref c] ∧ Wds rows most H c ks ∧ ks.length ≤ 72 ∧ (∀ k ∈ ks, isKey k = true) ∧ ∀ H', Same H H' → Q (.str (lettersM ks cell)) H'
abbrev s_letters_for : Stmt := top 37
abbrev N_letters_for : List Str := ["cell", "keys", "letter", "key"]
abbrev P_letters_for : List Str := ["cell", "keys"]
theorem sc_letters_for : FnScope N_letters_for P_letters_for (defScope s_letters_for) := ⟨rfl, rfl, rfl, by decide +kernel, rfl, by decide +kernel, by decide +kernel⟩
section
variable {P : Program} {w : World} {K : PySem.W.Frag} {mg : Str → Option Value} {base : Heap}
theorem ok_letters_for {f aL : Addr} {fd : FuncData} (F : Fun K "letters_for" "letters_for" s_letters_for f fd) (T : Tx mg) (LT : Tp K mg "LETTERS" aL [.str "g", .str "s"]) (D_touches : Df P w K mg base 1 "touches" P_touches [] spTouches) : FnOk P w K mg base CX0 2 f fd P_letters_for spLetters := by
  have sc := sc_letters_for
  refine F.ok sc (fun vs H Q E h => ?_) (fun cdv A outer s H vs Q E hr h => ?_)
  · obtain ⟨c, cell, ks, rows, most, rfl, _⟩ := h
    rfl
  obtain ⟨c, cell, ks, rows, most, rfl, wk, lk, hk, k⟩ := h
  have hu := hu_of hr
  have hu64 := hr.units
  obtain ⟨⟨kvs, hc, rk⟩, okk⟩ := id wk
  have lkv := Paired.length rk
  refine ⟨_, ((pss_one (ps_ret (pe_join pe_str (pe_lc (own := [("letter", 2)]) (g := gName 2) (by rfl) sc.nd (pi_tup (pe_globR LT.m)) (blkOk_by (own := [("letter", 2)]) (N := N_letters_for) (sc := defScope s_letters_for) (by decide +kernel)) (fun _ _ _ _ _ => (pg_name (i := 2) sc.nd rfl (by first | exact Or.inl rfl | exact Or.inr rfl))) (fun _ _ _ _ _ => (pts_one (pt_val (pe_callB (cq_any K rfl) (by rfl) T.any (by decide +kernel) (pa_cons (pe_lc (own := [("key", 3)]) (g := gName 3) (by rfl) sc.nd (pi_listK K (qv 1)) (blkOk_by (own := [("key", 3)]) (N := N_letters_for) (by rfl)) (fun _ _ _ _ _ => (pg_name (i := 3) sc.nd rfl (by first | exact Or.inl rfl | exact Or.inr rfl))) (fun _ _ _ _ _ => pts_nil) (fun _ _ _ _ _ => (qcall D_touches (by first | exact hr | exact hr.mono (by omega)) (pa_cons (qv 3) (pa_cons (qv 0) (pa_cons (qv 2) pa_nil)))))) pa_nil))))) (fun _ _ _ _ _ => (qv 2)))))) : PSs _ (_ :: _) _), ?_⟩
  refine ⟨⟨_, rfl⟩, aL, rfl, ⟨_, LT.t H⟩, fun D hD => ?_⟩
  refine lc_by (n := 2) (fun i H2 => Same H H2 ∧ H2 D = some (.lst (((([103, 115].take i).filter (letB ks cell)).map fun c => (⟨#[c]⟩ : Str)).map V.str))) ⟨same_new hD _, upd_same⟩ ?_ ?_ ?_ ?_
  · rintro i H2 hi ⟨s2, _⟩
    exact ⟨_, _, LT.t H2, List.getElem?_eq_getElem hi⟩
  · rintro H2 ⟨s2, _⟩
    exact ⟨_, LT.t H2, Nat.le_refl _⟩
  · rintro i H2 v H2' hi ⟨s2, d2⟩ ⟨rfl, hv⟩
    have hv := hv _ (LT.t H2')
    obtain ⟨l, hl, el⟩ : ∃ l : Nat, v = .str ⟨#[l]⟩ ∧ [103, 115].take (i + 1) = [103, 115].take i ++ [l] := by
      match i, hi, hv with
      | 0, _, e => exact ⟨103, by cases e; rw [sg], rfl⟩
      | 1, _, e => exact ⟨115, by cases e; rw [ss], rfl⟩
    subst hl
    refine ⟨rfl, c, rfl, ⟨_, SqL.of (s2 _ _ hc)⟩, fun B hB => ?_⟩
    have nDB : D ≠ B := ne_of_none d2 hB
    refine lc_by (n := kvs.length) (fun j H3 => Same H2' H3 ∧ H3 B = some (.lst (((ks.take j).map fun k => touchB k cell l).map V.bl))) ⟨same_new hB _, upd_same⟩ ?_ ?_ ?_ ?_
    · rintro j H3 hj ⟨s3, _⟩
      exact ⟨_, _, SqL.of (s3 _ _ (s2 _ _ hc)), List.getElem?_eq_getElem hj⟩
    · rintro H3 ⟨s3, _⟩
      exact ⟨_, SqL.of (s3 _ _ (s2 _ _ hc)), Nat.le_refl _⟩
    · rintro j H3 v H3' hj ⟨s3, d3⟩ ⟨rfl, hv⟩
      have hv := hv _ (SqL.of (s3 _ _ (s2 _ _ hc)))
      obtain ⟨x, v', g1, g2, g3⟩ := Paired.get2 (i := j) rk (by omega)
      rw [hv] at g2
      cases g2
      refine ⟨rfl, ?_⟩
      refine ⟨v, x, cell, l, rfl, g3.tups (Same.tups (s2.trans s3)), hk x (List.mem_of_getElem? g1), ?_⟩
      refine ⟨_, d3, small1000 (by rw [List.length_map, List.length_map, List.length_take]; omega), fun b' o e => ?_, ?_⟩
      · rw [upd_ne (ne_of_none e hB)]
        exact s3 _ _ e
      · rw [List.take_succ, g1, List.map_append, List.map_append]
        exact upd_same
    rintro H3 ⟨s3, d3⟩
    rw [← lkv, List.take_length] at d3
    refine ⟨B, _, rfl, SqL.of d3, _, rfl, ?_⟩
    have eb : ((ks.map fun k => touchB k cell l).any id) = letB ks cell l := by
      unfold letB
      rw [List.any_map]
      rfl
    rw [eb]
    have d4 := s3 _ _ d2
    have up4 : ∀ o, Same H (upd H3 D o) := fun o b' o' e => by
      rw [upd_ne (ne_of_none e hD)]
      exact s3 _ _ (s2 _ _ e)
    cases hb : letB ks cell l with
    | true =>
      refine iteT ⟨_, d4, small1000 (by rw [List.length_map, List.length_map]; exact Nat.le_trans (List.length_filter_le _ _) (by rw [List.length_take]; omega)), up4 _, ?_⟩
      rw [el, List.filter_append, List.map_append, List.map_append, List.filter_cons_of_pos hb]
      exact upd_same
    | false =>
      refine iteF ⟨s2.trans s3, ?_⟩
      rw [el, List.filter_append, List.filter_cons_of_neg (by rw [hb]; decide), List.filter_nil, List.append_nil]
      exact d4
  · rintro H2 ⟨s2, d2⟩
    refine ⟨_, D, _, rfl, rfl, .inl (SqL.of d2), ?_, ?_⟩
    · have h1 : ((([103, 115].take 2).filter (letB ks cell)).map fun c => (⟨#[c]⟩ : Str)).length ≤ 2 := by
        rw [List.length_map]
        exact Nat.le_trans (List.length_filter_le _ _) (by decide)
      have h2 : ∀ (xs : List Nat), ((xs.map fun c => (⟨#[c]⟩ : Str)).map (·.length)).sum = xs.length := fun xs => by
        induction xs with
        | nil => rfl
        | cons a r ih => rw [List.map_cons, List.map_cons, List.sum_cons, ih, List.length_cons, Nat.add_comm]; rfl
      rw [h2]
      rw [List.length_map] at h1
      have h3 : (Str.ofString "").length = 0 := by decide +kernel
      rw [h3]
      omega
    · have e : [103, 115].take 2 = [103, 115] := rfl
      rw [e, join_letters]
      exact k H2 s2
end
end Tm
set_option Elab.async false
set_option linter.all false
set_option maxRecDepth 100000
set_option maxHeartbeats 1000000
set_option pp.maxSteps 600
set_option pp.deepTerms false
namespace Tm
open PySem L2
def PrAt (H : Hp) (p : Int × Str) (v : V) : Prop := ∃ t, v = .ref t ∧ H t = some (.tup [.int p.1, .str p.2])
theorem PrAt.tups {H H' : Hp} (t : Tups H H') {p : Int × Str} {v : V} (h : PrAt H p v) : PrAt H' p v := by
  obtain ⟨a, e, h⟩ := h
  exact ⟨a, e, t _ _ h⟩
def prs (ks : List Wd) (n : Nat) : List (Int × Str) := (List.range n).map fun (i : Nat) => ((i : Int), lettersM ks (i : Int))
theorem prs_succ (ks : List Wd) (n : Nat) : prs ks (n + 1) = prs ks n ++ [((n : Int), lettersM ks (n : Int))] := by
  unfold prs
  rw [List.range_succ, List.map_append]
  rfl
theorem prs_len (ks : List Wd) (n : Nat) : (prs ks n).length = n := by
  unfold prs
  rw [List.length_map, List.length_range]
theorem letters_len (ks : List Wd) (cell : Int) : (lettersM ks cell).length ≤ 2 := by
  unfold lettersM Str.length
  simp only [List.size_toArray]
  exact Nat.le_trans (List.length_filter_le _ _) (by decide)
theorem str_truth (s : Str) : ((s.length : Int) != 0) = decide (¬ s = Str.ofString "") := by
  by_cases h : s = Str.ofString ""
  · subst h
    decide +kernel
  · rw [decide_eq_true h]
    have : ¬ s.length = 0 := fun z => h (by
      cases s with
      | mk c =>
        have z : c.size = 0 := z
        have e : c = #[] := Array.eq_empty_of_size_eq_zero z
        subst e
        decide +kernel)
    simp
    omega
theorem Gro.free {T : Addr} {pos : Pos} {qual : Str} {H H' : Hp} (g : Gro T pos qual H H') {p : Addr} (h : H' p = none) : H p = none := by
  cases e : H p with
  | none => rfl
  | some o =>
    by_cases z : p = T
    · obtain ⟨ps, t⟩ := g.tb.tbl
      rw [z, t] at h
      cases h
    · rw [g.keep _ _ z e] at h
      cases h
def spReach (T : Addr) : Sp := fun vs H Q _ => ∃ (rows rooms : Int) (c b : Addr) (g : Bool) (cs bs : List Wd), vs = [.int rows, .int rooms, .ref c, .ref b, .bl g] ∧ 0 ≤ rooms ∧ rooms ≤ 12 ∧ TblOk posA qA H T ∧ Wds rows (64 - 4 * rooms) H c cs ∧ (cs.length : Int) = 64 - 4 * rooms ∧ Wds rows (64 - 4 * rooms) H b bs ∧ bs.length = 8 ∧
  ∀ (l : Addr) (vs : List V) (ks : List Wd) (H' : Hp), Gro T posA qA H H' → H l = none → (∀ k, k ∈ ks ↔ Rch g cs bs k) → H' l = some (.lst vs) → Paired (PrAt H') (toldM ks cs.length) vs → Q (.ref l) H'
abbrev s_reach : Stmt := top 38
abbrev N_reach : List Str := ["rows", "rooms", "cells", "boxes", "gates", "keys", "told", "cell", "box", "hops", "key", "letters"]
abbrev P_reach : List Str := ["rows", "rooms", "cells", "boxes", "gates"]
theorem sc_reach : FnScope N_reach P_reach (defScope s_reach) := ⟨rfl, rfl, rfl, by decide +kernel, rfl, by decide +kernel, by decide +kernel⟩
section
variable {P : Program} {w : World} {K : PySem.W.Frag} {mg : Str → Option Value} {base : Heap}
theorem ok_reach {f T : Addr} {fd : FuncData} (F : Fun K "reach" "reach" s_reach f fd) (T_ : Tx mg) (D_check_words : Df P w K mg base 8 "check_words" P_check_words [] (spCheckW T)) (D_all_ways : Df P w K mg base 5 "all_ways" P_all_ways [] spWays) (D_letters_for : Df P w K mg base 2 "letters_for" P_letters_for [] spLetters) : FnOk P w K mg base CX0 9 f fd P_reach (spReach T) := by
  have sc := sc_reach
  refine F.ok sc (fun vs H Q E h => ?_) (fun cdv A outer s H vs Q E hr h => ?_)
  · obtain ⟨rows, rooms, c, b, g, cs, bs, rfl, _⟩ := h
    rfl
  obtain ⟨rows, rooms, c, b, g, cs, bs, rfl, r0, r1, tb, wc, nc, wb, nb, k⟩ := h
  have hu := hu_of hr
  have hu64 := hr.units
  have T := T_
  refine ⟨_, ((pss_cons (ps_expr (qcall D_check_words (by first | exact hr | exact hr.mono (by omega)) (pa_cons (qv 0) (pa_cons (qv 1) (pa_cons (qv 2) (pa_cons (qv 3) pa_nil))))))
  (pss_cons (ps_set (i := 5) sc.nd rfl (by first | exact Or.inl rfl | exact Or.inr rfl) (pe_lc (own := [("box", 8), ("hops", 9), ("key", 10)]) (g := gTup K 3 (gCons (gName 8) (gCons (gName 9) (gCons (gName 10) gNil)))) (by rfl) sc.nd (pi_list (qcall D_all_ways (by first | exact hr | exact hr.mono (by omega)) (pa_cons (qv 2) (pa_cons (qv 3) (pa_cons (qv 4) pa_nil))))) (blkOk_by (own := [("box", 8), ("hops", 9), ("key", 10)]) (N := N_reach) (sc := defScope s_reach) (by decide +kernel)) (fun _ _ _ _ _ => (pg_tup (by rfl) (pgs_cons (pg_name (i := 8) sc.nd rfl (by first | exact Or.inl rfl | exact Or.inr rfl)) (pgs_cons (pg_name (i := 9) sc.nd rfl (by first | exact Or.inl rfl | exact Or.inr rfl)) (pgs_cons (pg_name (i := 10) sc.nd rfl (by first | exact Or.inl rfl | exact Or.inr rfl)) pgs_nil))))) (fun _ _ _ _ _ => pts_nil) (fun _ _ _ _ _ => (qv 10))))
  (pss_cons (ps_setLc (i := 6) (own := [("cell", 7)]) (g := gName 7) (by rfl) sc.nd rfl rfl (sw_true rfl rfl rfl (by decide +kernel)) (pi_range1 (by rfl) T.range (pa_cons (pe_callB (cq_len K) (by rfl) T.len (by decide +kernel) (pa_cons (qv 2) pa_nil)) pa_nil)) (blkOk_by (own := [("cell", 7)]) (N := N_reach) (sc := defScope s_reach) (by decide +kernel)) (fun _ _ _ _ _ => (pg_name (i := 7) sc.nd rfl (by first | exact Or.inl rfl | exact Or.inr rfl))) (fun _ _ _ _ _ => pts_nil) (fun _ _ _ _ _ => (pe_tup (pa_cons (qv 7) (pa_cons (qcall D_letters_for (by first | exact hr | exact hr.mono (by omega)) (pa_cons (qv 7) (pa_cons (qv 5) pa_nil))) pa_nil)))))
  (pss_one (ps_ret (pe_lc (own := [("cell", 7), ("letters", 11)]) (g := gTup K 2 (gCons (gName 7) (gCons (gName 11) gNil))) (by rfl) sc.nd (pi_list (qv 6)) (blkOk_by (own := [("cell", 7), ("letters", 11)]) (N := N_reach) (sc := defScope s_reach) (by decide +kernel)) (fun _ _ _ _ _ => (pg_tup (by rfl) (pgs_cons (pg_name (i := 7) sc.nd rfl (by first | exact Or.inl rfl | exact Or.inr rfl)) (pgs_cons (pg_name (i := 11) sc.nd rfl (by first | exact Or.inl rfl | exact Or.inr rfl)) pgs_nil)))) (fun _ _ _ _ _ => (pts_one (pt_truthK K (qv 11) (by intro _; rfl)))) (fun _ _ _ _ _ => (pe_tup (pa_cons (qv 7) (pa_cons (qv 11) pa_nil)))))))))) : PSs _ (_ :: _) _), ?_⟩
  refine ⟨rows, rooms, c, b, cs, bs, rfl, r0, r1, tb, wc, nc, wb, nb, fun H1 g1 => ?_⟩
  have wc1 := g1.wds tb wc
  have wb1 := g1.wds tb wb
  refine ⟨c, b, g, cs, bs, rows, 64 - 4 * rooms, rfl, wc1, nc, by omega, wb1, nb, fun l vs ws H2 s2 nl wl lk vws least => ?_⟩
  have hk : ∀ k, k ∈ ws.map Way.key ↔ Rch g cs bs k := fun k => by
    constructor
    · intro h
      obtain ⟨v, hv, rfl⟩ := List.mem_map.mp h
      exact (vws v hv).rch
    · intro h
      obtain ⟨v, hv, rfl⟩ := h.way
      obtain ⟨u, hu, e, _⟩ := least v hv
      exact List.mem_map.mpr ⟨u, hu, e⟩
  have lkm : (ws.map Way.key).length ≤ 72 := by rw [List.length_map]; exact lk
  obtain ⟨ks, eks⟩ : ∃ ks, ws.map Way.key = ks := ⟨_, rfl⟩
  rw [eks] at hk lkm
  have okk : ∀ k ∈ ks, WOk rows (64 - 4 * rooms) k ∧ isKey k = true := fun k h => ((hk k).mp h).ok wc.ok wb.ok
  have lvk := wl.len
  refine ⟨l, rfl, ⟨_, SqL.of wl.at_⟩, fun D hD => ?_⟩
  refine lc_by (n := vs.length) (fun i H3 => Same H2 H3 ∧ ∃ us, H3 D = some (.lst us) ∧ Paired (IsW H3) (ks.take i) us) ⟨same_new hD _, [], upd_same, .nil⟩ ?_ ?_ ?_ ?_
  · rintro i H3 hi ⟨s3, _⟩
    exact ⟨_, _, SqL.of (s3 _ _ wl.at_), List.getElem?_eq_getElem hi⟩
  · rintro H3 ⟨s3, _⟩
    exact ⟨_, SqL.of (s3 _ _ wl.at_), Nat.le_refl _⟩
  · rintro i H3 v H3' hi ⟨s3, us, d3, p3⟩ ⟨rfl, hv⟩
    have hv := hv _ (SqL.of (s3 _ _ wl.at_))
    obtain ⟨way, vv, gk, gv, wt, wh, hv', kv, ev, ht, hh, hop, ik⟩ := Paired.get2 (i := i) wl.is (by omega)
    rw [hv] at gv
    cases gv
    subst ev
    have hki : ks[i]? = some way.key := by rw [← eks, List.getElem?_map, gk]; rfl
    have lu := Paired.length p3
    rw [List.length_take] at lu
    have lks : ks.length = ws.length := by rw [← eks, List.length_map]
    refine ⟨wt, _, rfl, SqT.of (s3 _ _ ht), rfl, _, _, rfl, _, _, rfl, _, _, rfl, rfl, rfl, ?_⟩
    have tp : Tups H3' (upd H3' D (.lst (us ++ [kv]))) := Tups.upd (soft_lst d3)
    refine ⟨_, d3, small1000 (by omega), fun b' o e => ?_, us ++ [kv], upd_same, ?_⟩
    · rw [upd_ne (ne_of_none e hD)]
      exact s3 _ _ e
    · rw [List.take_succ, hki]
      exact paired_add (Paired.mapP p3 fun _ _ q => q.tups tp) ((ik.tups (Same.tups s3)).tups tp)
  rintro H3 ⟨s3, us, d3, p3⟩
  rw [lvk, List.take_of_length_le (by rw [← eks, List.length_map]; exact Nat.le_refl _)] at p3
  have wk3 : Wds rows (64 - 4 * rooms) H3 D ks := ⟨⟨us, d3, p3⟩, fun x hx => (okk x hx).1⟩
  have s13 := s2.trans s3
  obtain ⟨cvs, hc3, lc3⟩ := (wc1.same s13).lst
  refine .inl ⟨_, SqL.of hc3, ?_⟩
  refine ⟨_, rfl, by omega, by omega, fun D' hD' => ?_⟩
  refine lc_range (lo := 0) (n := ((cvs.length : Nat) : Int).toNat) (fun i H4 => Same H3 H4 ∧ ∃ ts, H4 D' = some (.lst ts) ∧ Paired (PrAt H4) (prs ks i) ts) ⟨same_new hD' _, [], upd_same, .nil⟩ ?_ ?_
  · rintro i H4 hi ⟨s4, ts, d4, p4⟩
    have e0 : (0 : Int) + (i : Int) = (i : Int) := by omega
    rw [e0]
    refine ⟨rfl, ?_⟩
    refine ⟨D, _, ks, rows, 64 - 4 * rooms, rfl, wk3.same s4, lkm, fun k h => (okk k h).2, fun H5 s5 => ?_⟩
    refine ⟨(by decide : 2 ≤ sizeLine), fun t ht => ?_⟩
    have s6 := s5.trans (same_new ht (.tup [.int (i : Int), .str (lettersM ks (i : Int))]))
    have d6 := s6 _ _ d4
    have lt := Paired.length p4
    rw [prs_len] at lt
    have tp := Tups.upd (o := .lst (ts ++ [.ref t])) (soft_lst d6)
    refine ⟨_, d6, small1000 (by omega), fun b' o e => ?_, ts ++ [.ref t], upd_same, ?_⟩
    · rw [upd_ne (ne_of_none e hD')]
      exact s6 _ _ (s4 _ _ e)
    · rw [prs_succ]
      exact paired_add (Paired.mapP p4 fun _ _ q => (q.tups (Same.tups s6)).tups tp) ⟨t, rfl, tp _ _ upd_same⟩
  rintro H4 ⟨s4, ts, d4, p4⟩
  have en : ((cvs.length : Nat) : Int).toNat = cs.length := by omega
  rw [en] at p4
  have lt := Paired.length p4
  rw [prs_len] at lt
  refine ⟨D', rfl, ⟨_, SqL.of d4⟩, fun D2 hD2 => ?_⟩
  refine lc_by (n := ts.length) (fun i H5 => Same H4 H5 ∧ ∃ us, H5 D2 = some (.lst us) ∧ Paired (PrAt H5) (((prs ks cs.length).take i).filter fun p => decide (¬ p.2 = Str.ofString "")) us) ⟨same_new hD2 _, [], upd_same, .nil⟩ ?_ ?_ ?_ ?_
  · rintro i H5 hi ⟨s5, _⟩
    exact ⟨_, _, SqL.of (s5 _ _ d4), List.getElem?_eq_getElem hi⟩
  · rintro H5 ⟨s5, _⟩
    exact ⟨_, SqL.of (s5 _ _ d4), Nat.le_refl _⟩
  · rintro i H5 v H5' hi ⟨s5, us, d5, p5⟩ ⟨rfl, hv⟩
    have hv := hv _ (SqL.of (s5 _ _ d4))
    obtain ⟨x, v', g1', g2, g3⟩ := Paired.get2 (i := i) p4 (by rw [prs_len]; omega)
    rw [hv] at g2
    cases g2
    obtain ⟨t, rfl, ht⟩ := g3
    have lx : x.2.length ≤ 2 := by
      have hx := List.mem_of_getElem? g1'
      unfold prs at hx
      obtain ⟨j, _, rfl⟩ := List.mem_map.mp hx
      exact letters_len ks j
    have lu := Paired.length p5
    have lf := List.length_filter_le (fun p : Int × Str => decide (¬ p.2 = Str.ofString "")) ((prs ks cs.length).take i)
    rw [List.length_take] at lf
    refine ⟨t, _, rfl, SqT.of (s5 _ _ ht), rfl, _, _, rfl, _, _, rfl, rfl, rfl, ?_⟩
    refine ⟨_, ⟨Nat.le_of_lt (small1000 (by omega)), rfl⟩, ?_⟩
    have etk : (prs ks cs.length).take (i + 1) = (prs ks cs.length).take i ++ [x] := by
      rw [List.take_succ, g1']
      rfl
    by_cases hx : x.2 = Str.ofString ""
    · refine iteF' (by rw [str_truth, decide_eq_false (fun z => z hx)]) ⟨s5, us, d5, ?_⟩
      rw [etk, List.filter_append, List.filter_cons_of_neg (by rw [decide_eq_false (fun z => z hx)]; decide), List.filter_nil, List.append_nil]
      exact p5
    · refine iteT' (by rw [str_truth, decide_eq_true hx]) ?_
      refine ⟨(by decide : 2 ≤ sizeLine), fun t2 ht2 => ?_⟩
      have s6 := same_new ht2 (.tup [.int x.1, .str x.2])
      have d6 := s6 _ _ d5
      have tp := Tups.upd (o := .lst (us ++ [.ref t2])) (soft_lst d6)
      refine ⟨_, d6, small1000 (by omega), fun b' o e => ?_, us ++ [.ref t2], upd_same, ?_⟩
      · rw [upd_ne (ne_of_none e hD2)]
        exact s6 _ _ (s5 _ _ e)
      · rw [etk, List.filter_append, List.filter_cons_of_pos (p := fun p : Int × Str => decide (¬ p.2 = Str.ofString "")) (decide_eq_true hx), List.filter_nil]
        exact paired_add (Paired.mapP p5 fun _ _ q => (q.tups (Same.tups s6)).tups tp) ⟨t2, rfl, tp _ _ upd_same⟩
  · rintro H5 ⟨s5, us, d5, p5⟩
    rw [List.take_of_length_le (by rw [prs_len]; omega)] at p5
    have sall := (s13.trans s4)
    exact k D2 us ks H5 (g1.then (sall.trans s5)) (g1.free (sall.free hD2)) hk d5 p5
end
end Tm
set_option Elab.async false
set_option linter.all false
set_option maxRecDepth 100000
set_option maxHeartbeats 1000000
set_option pp.maxSteps 600
set_option pp.deepTerms false
namespace Tm
open PySem L2
structure Gt (mg : Str → Option Value) : Prop where
  LEAST : ∃ t, mg "LEAST" = some (.int (-10000) t)
  STRETCH : ∃ t, mg "STRETCH" = some (.int 20000 t)
  CELLS : ∃ t, mg "CELLS" = some (.int 64 t)
  MOST_KEYS : ∃ t, mg "MOST_KEYS" = some (.int 9 t)
def atOf : Wd → Int
  | .key _ _ a _ => a
  | _ => 0
def RwL (H : Hp) (l : Addr) (xs : List Rw) : Prop := ∃ vs, H l = some (.lst vs) ∧ Paired (IsR H) xs vs
theorem RwL.same {H H' : Hp} {l : Addr} {xs : List Rw} (h : RwL H l xs) (s : Same H H') : RwL H' l xs := by
  obtain ⟨vs, e, p⟩ := h
  exact ⟨vs, s _ _ e, Paired.mapP p fun _ _ q => q.tups (Same.tups s)⟩
def moveM (b s : Int) (k : Wd) (c : Int) : List Rw := [.put s (ring (c - atOf k)), .add b b s]
def spareOf (b : Int) : Int := if b = 0 then 1 else 0
def hopsM (u : Way) (hs : List (Wd × Int)) : List Rw := hs.flatMap fun h => moveM u.box (spareOf u.box) h.1 h.2 ++ [.get u.box u.box 0]
def touchM (u : Way) (l : Nat) : Rw := if l = 103 then .get u.box u.box 0 else .set u.box 0 (spareOf u.box)
def wayRows (u : Way) (cell : Int) (l : Nat) : List Rw := hopsM u u.hops ++ moveM u.box (spareOf u.box) u.key cell ++ [touchM u l]
theorem hops_len (u : Way) : ∀ hs : List (Wd × Int), (hopsM u hs).length = 3 * hs.length
  | [] => rfl
  | h :: hs => by
    have ih := hops_len u hs
    unfold hopsM at ih ⊢
    rw [List.flatMap_cons, List.length_append, ih, List.length_cons]
    show 3 + 3 * hs.length = 3 * (hs.length + 1)
    omega
theorem hops_snoc (u : Way) (hs : List (Wd × Int)) (h : Wd × Int) : hopsM u (hs ++ [h]) = hopsM u hs ++ moveM u.box (spareOf u.box) h.1 h.2 ++ [.get u.box u.box 0] := by
  unfold hopsM
  rw [List.flatMap_append, List.append_assoc]
  simp
def endsM (u : Way) (cell : Int) (l : Nat) (rows : Int) : List Rw := wayRows u cell l ++ List.replicate (max 1 (rows - (wayRows u cell l).length)).toNat .end_
def spTakenT : Sp := fun vs H Q _ => ∃ n : Int, vs = [.int n] ∧ Q (.int (ring n)) H
def spCheckT : Sp := fun vs H Q _ => ∃ (c : Int) (l : Nat), vs = [.int c, .str ⟨#[l]⟩] ∧ 0 ≤ c ∧ c ≤ 63 ∧ (l = 103 ∨ l = 115) ∧ Q .non H
def spMove : Sp := fun vs H Q _ => ∃ (b s c : Int) (kv : V) (k : Wd), vs = [.int b, .int s, kv, .int c] ∧ IsW H k kv ∧ isKey k = true ∧ ∀ l H', Same H H' → H l = none → RwL H' l (moveM b s k c) → Q (.ref l) H'
def spWayRows : Sp := fun vs H Q _ => ∃ (v : V) (u : Way) (c : Int) (l : Nat), vs = [v, .int c, .str ⟨#[l]⟩] ∧ WayAt H u v ∧ isKey u.key = true ∧ (∀ h ∈ u.hops, isKey h.1 = true) ∧ u.hops.length ≤ 9 ∧ (l = 103 ∨ l = 115) ∧ ∀ p H', Same H H' → H p = none → RwL H' p (wayRows u c l) → Q (.ref p) H'
abbrev s_taken : Stmt := top 20
abbrev N_taken : List Str := ["number"]
abbrev P_taken : List Str := ["number"]
theorem sc_taken : FnScope N_taken P_taken (defScope s_taken) := ⟨rfl, rfl, rfl, by decide +kernel, rfl, by decide +kernel, by decide +kernel⟩
abbrev s_check_touch : Stmt := top 39
abbrev N_check_touch : List Str := ["cell", "letter"]
abbrev P_check_touch : List Str := ["cell", "letter"]
theorem sc_check_touch : FnScope N_check_touch P_check_touch (defScope s_check_touch) := ⟨rfl, rfl, rfl, by decide +kernel, rfl, by decide +kernel, by decide +kernel⟩
abbrev s_move_rows : Stmt := top 40
abbrev N_move_rows : List Str := ["box", "spare", "key", "cell"]
abbrev P_move_rows : List Str := ["box", "spare", "key", "cell"]
theorem sc_move_rows : FnScope N_move_rows P_move_rows (defScope s_move_rows) := ⟨rfl, rfl, rfl, by decide +kernel, rfl, by decide +kernel, by decide +kernel⟩
abbrev s_way_rows : Stmt := top 41
abbrev N_way_rows : List Str := ["way", "cell", "letter", "spare", "rows", "touch", "box", "hops", "key", "other", "place"]
abbrev P_way_rows : List Str := ["way", "cell", "letter"]
theorem sc_way_rows : FnScope N_way_rows P_way_rows (defScope s_way_rows) := ⟨rfl, rfl, rfl, by decide +kernel, rfl, by decide +kernel, by decide +kernel⟩
section
variable {P : Program} {w : World} {K : PySem.W.Frag} {mg : Str → Option Value} {base : Heap}
theorem ok_taken_t {f : Addr} {fd : FuncData} (F : Fun K "taken" "taken" s_taken f fd) (G : Gt mg) : FnOk P w K mg base CX0 1 f fd P_taken spTakenT := by
  have sc := sc_taken
  refine F.ok sc (fun vs H Q E h => ?_) (fun cdv A outer s H vs Q E hr h => ?_)
  · obtain ⟨v, rfl, _⟩ := h
    rfl
  obtain ⟨n, rfl, k⟩ := h
  refine ⟨_, ((pss_one (ps_ret (pe_op (oq_add K) (pe_op oq_mod (pe_op oq_sub (qv 0) (pe_globI G.LEAST)) (pe_globI G.STRETCH)) (pe_globI G.LEAST)))) : PSs _ [_] _), ?_⟩
  refine ⟨(by show (0 : Int) < 20000; decide), ?_⟩
  have e : (n - -10000) % 20000 + -10000 = ring n := by
    unfold ring
    omega
  show Q (.int ((n - -10000) % 20000 + -10000)) H
  rw [e]
  exact k
theorem ok_check_touch {f aL : Addr} {fd : FuncData} (F : Fun K "check_touch" "check_touch" s_check_touch f fd) (G : Gt mg) (LT : Tp K mg "LETTERS" aL [.str "g", .str "s"]) (D_is_whole : Df P w K mg base 1 "is_whole" P_is_whole [] spWhole) : FnOk P w K mg base CX0 2 f fd P_check_touch spCheckT := by
  have sc := sc_check_touch
  refine F.ok sc (fun vs H Q E h => ?_) (fun cdv A outer s H vs Q E hr h => ?_)
  · obtain ⟨c, l, rfl, _⟩ := h
    rfl
  obtain ⟨c, l, rfl, c0, c1, hl, k⟩ := h
  refine ⟨_, ((pss_cons (ps_if (pt_not (pt_val (qcall D_is_whole (by first | exact hr | exact hr.mono (by omega)) (pa_cons (qv 0) (pa_cons pe_int (pa_cons (pe_op oq_sub (pe_globI G.CELLS) pe_int) pa_nil))))))
  pss_never
  pss_nil)
  (pss_one (ps_if (pt_cmpR (oq_nin K) (qv 1) (pe_globR LT.m) (by rfl))
  pss_never
  pss_nil))) : PSs _ (_ :: _) _), ?_⟩
  refine ⟨.int c, 0, 64 - 1, rfl, trivial, _, rfl, ?_⟩
  have e : wholeB (.int c) 0 (64 - 1) = true := by
    show (decide (0 ≤ c) && decide (c ≤ 64 - 1)) = true
    rw [decide_eq_true c0, decide_eq_true (by omega)]
    rfl
  rw [e]
  refine iteF ⟨aL, _, rfl, .inr (LT.t H), rfl, rfl, _, rfl, ?_⟩
  rcases hl with rfl | rfl
  · exact iteF' (by decide +kernel) k
  · exact iteF' (by decide +kernel) k
theorem ok_move_rows {f : Addr} {fd : FuncData} (F : Fun K "move_rows" "move_rows" s_move_rows f fd) (D_taken : Df P w K mg base 1 "taken" P_taken [] spTakenT) : FnOk P w K mg base CX0 2 f fd P_move_rows spMove := by
  have sc := sc_move_rows
  refine F.ok sc (fun vs H Q E h => ?_) (fun cdv A outer s H vs Q E hr h => ?_)
  · obtain ⟨b, s, c, kv, k, rfl, _⟩ := h
    rfl
  obtain ⟨b, s', c, kv, kw, rfl, ik, hk, k⟩ := h
  have hu := hu_of hr
  cases kw with
  | num n => cases hk
  | gate g y => cases hk
  | key kb ke ka kr =>
  obtain ⟨p, rfl, hp⟩ := ik
  refine ⟨_, ((pss_one (ps_ret (pe_lst (pa_cons (pe_tup (pa_cons pe_str (pa_cons (qv 1) (pa_cons (qcall D_taken (by first | exact hr | exact hr.mono (by omega)) (pa_cons (pe_op oq_sub (qv 3) (pe_ix (iq K hu) (qv 2) pe_int (fun _ _ => rfl))) pa_nil)) pa_nil)))) (pa_cons (pe_tup (pa_cons pe_str (pa_cons (qv 0) (pa_cons (qv 0) (pa_cons (qv 1) pa_nil))))) pa_nil))))) : PSs _ [_] _), ?_⟩
  refine .inr (.inl ⟨_, _, SqT.of hp, rfl, _, rfl, ?_⟩)
  refine ⟨(by decide : 3 ≤ sizeLine), fun t1 h1 => ⟨(by decide : 4 ≤ sizeLine), fun t2 h2 => ⟨(by decide : 2 ≤ sizeLine), fun l hl => ?_⟩⟩⟩
  have s1 := same_new h1 (.tup [.str "put", .int s', .int (ring (c - ka))])
  have s2 := same_new h2 (.tup [.str "add", .int b, .int b, .int s'])
  have s3 := same_new hl (.lst [.ref t1, .ref t2])
  have s12 := s1.trans s2
  exact k l _ (s12.trans s3) (s12.free hl) ⟨_, upd_same, .cons ⟨t1, rfl, s3 _ _ (s2 _ _ upd_same)⟩ (.cons ⟨t2, rfl, s3 _ _ upd_same⟩ .nil)⟩
theorem ok_way_rows {f : Addr} {fd : FuncData} (F : Fun K "way_rows" "way_rows" s_way_rows f fd) (D_move_rows : Df P w K mg base 2 "move_rows" P_move_rows [] spMove) : FnOk P w K mg base CX0 3 f fd P_way_rows spWayRows := by
  have sc := sc_way_rows
  refine F.ok sc (fun vs H Q E h => ?_) (fun cdv A outer s H vs Q E hr h => ?_)
  · obtain ⟨v, u, c, l, rfl, _⟩ := h
    rfl
  obtain ⟨v, u, c, l, rfl, ⟨t, hA, hv, kv, rfl, ht, hh, hop, ik⟩, hk, hhk, h9, hl, k⟩ := h
  have hu := hu_of hr
  have hu64 := hr.units
  have lh := Paired.length hop
  refine ⟨_, ((pss_cons (ps_asg (qv 0) (pg_tup (by rfl) (pgs_cons (pg_name (i := 6) sc.nd rfl (by first | exact Or.inl rfl | exact Or.inr rfl)) (pgs_cons (pg_name (i := 7) sc.nd rfl (by first | exact Or.inl rfl | exact Or.inr rfl)) (pgs_cons (pg_name (i := 8) sc.nd rfl (by first | exact Or.inl rfl | exact Or.inr rfl)) pgs_nil)))))
  (pss_cons (ps_set (i := 3) sc.nd rfl (by first | exact Or.inl rfl | exact Or.inr rfl) (pe_ifExp (pt_cmpR (oq_eq K hu64) (qv 6) pe_int (nomark _)) pe_int pe_int))
  (pss_cons (ps_set (i := 4) sc.nd rfl (by first | exact Or.inl rfl | exact Or.inr rfl) (pe_lst pa_nil))
  (pss_cons (ps_for PassesOwn.never rfl (pi_tup (qv 7)) (pg_tup (by rfl) (pgs_cons (pg_name (i := 9) sc.nd rfl (by first | exact Or.inl rfl | exact Or.inr rfl)) (pgs_cons (pg_name (i := 10) sc.nd rfl (by first | exact Or.inl rfl | exact Or.inr rfl)) pgs_nil)))
  (pss_one (ps_set (i := 4) sc.nd rfl (by first | exact Or.inl rfl | exact Or.inr rfl) (pe_op (oq_add K) (pe_op (oq_add K) (qv 4) (qcall D_move_rows (by first | exact hr | exact hr.mono (by omega)) (pa_cons (qv 6) (pa_cons (qv 3) (pa_cons (qv 9) (pa_cons (qv 10) pa_nil)))))) (pe_lst (pa_cons (pe_tup (pa_cons pe_str (pa_cons (qv 6) (pa_cons (qv 6) (pa_cons pe_int pa_nil))))) pa_nil))))))
  (pss_cons (ps_set (i := 5) sc.nd rfl (by first | exact Or.inl rfl | exact Or.inr rfl) (pe_ifExp (pt_cmpR (oq_eq K hu64) (qv 2) pe_str (nomark _)) (pe_tup (pa_cons pe_str (pa_cons (qv 6) (pa_cons (qv 6) (pa_cons pe_int pa_nil))))) (pe_tup (pa_cons pe_str (pa_cons (qv 6) (pa_cons pe_int (pa_cons (qv 3) pa_nil)))))))
  (pss_one (ps_ret (pe_op (oq_add K) (pe_op (oq_add K) (qv 4) (qcall D_move_rows (by first | exact hr | exact hr.mono (by omega)) (pa_cons (qv 6) (pa_cons (qv 3) (pa_cons (qv 8) (pa_cons (qv 1) pa_nil)))))) (pe_lst (pa_cons (qv 5) pa_nil)))))))))) : PSs _ (_ :: _) _), ?_⟩
  refine ⟨t, _, rfl, SqT.of ht, rfl, _, _, rfl, _, _, rfl, _, _, rfl, rfl, ?_⟩
  dsimp only
  refine tSeq.cut (fun σ' H' => H' = H ∧ σ' = [some (.ref t), some (.int c), some (.str ⟨#[l]⟩), some (.int (spareOf u.box)), none, none, some (.int u.box), some (.ref hA), some kv, none, none]) ?_ ?_
  rotate_left
  · intro fin
    refine ⟨rfl, _, rfl, ?_⟩
    by_cases hb : u.box = 0
    · refine iteT' (decide_eq_true (congrArg V.int hb)) (fin _ _ ⟨rfl, ?_⟩)
      unfold spareOf
      rw [if_pos hb]
      rfl
    · refine iteF' (decide_eq_false fun z => hb (V.int.inj z)) (fin _ _ ⟨rfl, ?_⟩)
      unfold spareOf
      rw [if_neg hb]
      rfl
  rintro σ' H' ⟨rfl, rfl⟩
  refine ⟨(by decide : 0 ≤ sizeLine), fun r0 hr0 => ?_⟩
  refine ⟨hA, rfl, ⟨_, SqT.of ((same_new hr0 _) _ _ hh)⟩, ?_⟩
  refine for_by (n := hv.length) (fun i σ H2 => ∃ (r : Addr) (x y : Option V), σ = [some (.ref t), some (.int c), some (.str ⟨#[l]⟩), some (.int (spareOf u.box)), some (.ref r), none, some (.int u.box), some (.ref hA), some kv, x, y] ∧ Same H' H2 ∧ H' r = none ∧ RwL H2 r (hopsM u (u.hops.take i))) ⟨r0, _, _, rfl, same_new hr0 _, hr0, [], upd_same, .nil⟩ ?_ ?_ ?_ ?_
  · rintro i σ H2 hi ⟨_, _, _, _, s2, _⟩
    exact ⟨_, _, SqT.of (s2 _ _ hh), List.getElem?_eq_getElem hi⟩
  · rintro σ H2 ⟨_, _, _, _, s2, _⟩
    exact ⟨_, SqT.of (s2 _ _ hh), Nat.le_refl _⟩
  · rintro i σ H2 v H2' hi ⟨r, x, y, rfl, s2, nr, rl⟩ ⟨rfl, hv2⟩
    have hv2 := hv2 _ (SqT.of (s2 _ _ hh))
    obtain ⟨hop1, v', g1, g2, t', kv', e', ht', ik'⟩ := Paired.get2 (i := i) hop (by omega)
    rw [hv2] at g2
    cases g2
    subst e'
    refine ⟨t', _, rfl, SqT.of (s2 _ _ ht'), rfl, _, _, rfl, _, _, rfl, rfl, ?_⟩
    refine ⟨u.box, spareOf u.box, hop1.2, kv', hop1.1, rfl, ik'.tups (Same.tups s2), hhk hop1 (List.mem_of_getElem? g1), fun l1 H3 s3 nl1 rl1 => ?_⟩
    obtain ⟨vs, er, pr⟩ := rl.same s3
    obtain ⟨ms, em, pm⟩ := rl1
    have lr := Paired.length pr
    rw [hops_len, List.length_take] at lr
    have lm := Paired.length pm
    have lm2 : (moveM u.box (spareOf u.box) hop1.1 hop1.2).length = 2 := rfl
    rw [lm2] at lm
    refine .inl ⟨r, l1, vs, ms, rfl, rfl, er, em, Nat.le_of_lt (small1000 (by omega)), fun p hp => ?_⟩
    refine ⟨(by decide : 4 ≤ sizeLine), fun tg htg => ⟨(by decide : 1 ≤ sizeLine), fun l2 hl2 => ?_⟩⟩
    have s4 := same_new hp (.lst (vs ++ ms))
    have s5 := same_new htg (.tup [.str "get", .int u.box, .int u.box, .int 0])
    have s6 := same_new hl2 (.lst [.ref tg])
    have s36 := (s4.trans s5).trans s6
    refine .inl ⟨p, l2, _, _, rfl, rfl, s6 _ _ (s5 _ _ upd_same), upd_same, Nat.le_of_lt (small1000 (by rw [List.length_append, List.length_singleton]; omega)), fun p2 hp2 => ?_⟩
    have s7 := s36.trans (same_new hp2 (.lst (vs ++ ms ++ [.ref tg])))
    have s27 := s2.trans (s3.trans s7)
    refine ⟨p2, _, _, rfl, s27, (s2.trans (s3.trans s36)).free hp2, vs ++ ms ++ [.ref tg], upd_same, ?_⟩
    have etk : u.hops.take (i + 1) = u.hops.take i ++ [hop1] := by
      rw [List.take_succ, g1]
      rfl
    rw [etk, hops_snoc]
    refine paired_add (paired_app (Paired.mapP pr fun _ _ q => q.tups (Same.tups s7)) (Paired.mapP pm fun _ _ q => q.tups (Same.tups s7))) ⟨tg, rfl, ?_⟩
    exact (same_new hp2 _) _ _ (s6 _ _ upd_same)
  · rintro σ H2 ⟨r, x, y, rfl, s2, nr, rl⟩
    rw [← lh, List.take_length] at rl
    dsimp only
    refine tSeq.cut (fun σ' H3 => ∃ tt, Same H2 H3 ∧ H3 tt = some (.tup (touchM u l).vals) ∧ σ' = [some (.ref t), some (.int c), some (.str ⟨#[l]⟩), some (.int (spareOf u.box)), some (.ref r), some (.ref tt), some (.int u.box), some (.ref hA), some kv, x, y]) ?_ ?_
    rotate_left
    · intro fin
      refine ⟨rfl, _, rfl, ?_⟩
      rcases hl with rfl | rfl
      · refine iteT' (by rw [sg]; exact decide_eq_true rfl) ⟨(by decide : 4 ≤ sizeLine), fun tt htt => fin _ _ ⟨tt, same_new htt _, upd_same, rfl⟩⟩
      · refine iteF' (by decide +kernel) ⟨(by decide : 4 ≤ sizeLine), fun tt htt => fin _ _ ⟨tt, same_new htt _, upd_same, rfl⟩⟩
    rintro σ' H3 ⟨tt, s3, ett, rfl⟩
    have s03 := s2.trans s3
    refine ⟨u.box, spareOf u.box, c, kv, u.key, rfl, ik.tups (Same.tups s03), hk, fun l1 H4 s4 nl1 rl1 => ?_⟩
    obtain ⟨vs, er, pr⟩ := (rl.same s3).same s4
    obtain ⟨ms, em, pm⟩ := rl1
    have lr := Paired.length pr
    rw [hops_len] at lr
    have lm := Paired.length pm
    have lm2 : (moveM u.box (spareOf u.box) u.key c).length = 2 := rfl
    rw [lm2] at lm
    refine .inl ⟨r, l1, vs, ms, rfl, rfl, er, em, Nat.le_of_lt (small1000 (by omega)), fun p hp => ?_⟩
    refine ⟨(by decide : 1 ≤ sizeLine), fun l2 hl2 => ?_⟩
    have s5 := same_new hp (.lst (vs ++ ms))
    have s6 := same_new hl2 (.lst [.ref tt])
    refine .inl ⟨p, l2, _, _, rfl, rfl, s6 _ _ upd_same, upd_same, Nat.le_of_lt (small1000 (by rw [List.length_append, List.length_singleton]; omega)), fun p2 hp2 => ?_⟩
    have s46 := s5.trans s6
    have s7 := s46.trans (same_new hp2 (.lst (vs ++ ms ++ [.ref tt])))
    refine k p2 _ (s03.trans (s4.trans s7)) ((s03.trans (s4.trans s46)).free hp2) ⟨_, upd_same, ?_⟩
    exact paired_add (paired_app (Paired.mapP pr fun _ _ q => q.tups (Same.tups s7)) (Paired.mapP pm fun _ _ q => q.tups (Same.tups s7))) ⟨tt, rfl, s7 _ _ (s4 _ _ ett)⟩
end
end Tm
set_option Elab.async false
set_option linter.all false
set_option maxRecDepth 100000
set_option maxHeartbeats 1000000
set_option pp.maxSteps 600
set_option pp.deepTerms false
namespace Tm
open PySem L2
theorem shown_key {k : Wd} {c : Int} (h : c ∈ shown k) : isKey k = true := by
  cases k with
  | num n => cases h
  | gate g w => cases h
  | key b e a r => rfl
theorem Vw.hops_key {g : Bool} {cs bs : List Wd} {v : Way} (h : Vw g cs bs v) : ∀ x ∈ v.hops, isKey x.1 = true := by
  induction h with
  | box a b => exact fun x hx => absurd hx (by simp)
  | hop _ b _ _ ih =>
    intro x hx
    rcases List.mem_append.mp hx with z | z
    · exact ih x z
    · rw [List.mem_singleton.mp z]
      exact shown_key b
theorem rep_one (v : V) : ∀ n : Nat, (List.replicate n [v]).flatten = List.replicate n v
  | 0 => rfl
  | n + 1 => by
    rw [List.replicate_succ, List.flatten_cons, rep_one v n, List.replicate_succ]
    rfl
theorem paired_reps {α β : Type} {R : α → β → Prop} {x : α} {y : β} (h : R x y) : ∀ n : Nat, Paired R (List.replicate n x) (List.replicate n y)
  | 0 => .nil
  | n + 1 => .cons h (paired_reps h n)
theorem wayRows_len (u : Way) (c : Int) (l : Nat) : (wayRows u c l).length = 3 * u.hops.length + 3 := by
  unfold wayRows
  rw [List.length_append, List.length_append, hops_len]
  rfl
def spTouching (T : Addr) : Sp := fun vs H Q _ => ∃ (rows rooms cell : Int) (c b : Addr) (l : Nat) (cs bs : List Wd), vs = [.int rows, .int rooms, .ref c, .ref b, .int cell, .str ⟨#[l]⟩] ∧ 0 ≤ rooms ∧ rooms ≤ 12 ∧ 0 ≤ rows ∧ rows ≤ 1000 ∧ TblOk posA qA H T ∧ Wds rows (64 - 4 * rooms) H c cs ∧ (cs.length : Int) = 64 - 4 * rooms ∧ Wds rows (64 - 4 * rooms) H b bs ∧ bs.length = 8 ∧ 0 ≤ cell ∧ cell ≤ 63 ∧ (l = 103 ∨ l = 115) ∧
  ∀ (v : V) (H' : Hp), Gro T posA qA H H' → ((v = .non ∧ ∀ u, Vw false cs bs u → u.hops.length < 9 → touchB u.key cell l = false) ∨ ∃ (u : Way) (p : Addr) (vs : List V), Vw false cs bs u ∧ u.hops.length < 9 ∧ touchB u.key cell l = true ∧ v = .ref p ∧ H p = none ∧ H' p = some (.tup vs) ∧ Paired (IsR H') (endsM u cell l rows) vs) → Q v H'
abbrev s_touching : Stmt := top 42
abbrev N_touching : List Str := ["rows", "rooms", "cells", "boxes", "cell", "letter", "way", "box", "hops", "key", "made"]
abbrev P_touching : List Str := ["rows", "rooms", "cells", "boxes", "cell", "letter"]
theorem sc_touching : FnScope N_touching P_touching (defScope s_touching) := ⟨rfl, rfl, rfl, by decide +kernel, rfl, by decide +kernel, by decide +kernel⟩
section
variable {P : Program} {w : World} {K : PySem.W.Frag} {mg : Str → Option Value} {base : Heap}
theorem ok_touching {f Tb : Addr} {fd : FuncData} (F : Fun K "touching" "touching" s_touching f fd) (T : Tx mg) (G : Gt mg) (D_check_words : Df P w K mg base 8 "check_words" P_check_words [] (spCheckW Tb)) (D_check_touch : Df P w K mg base 2 "check_touch" P_check_touch [] spCheckT) (D_all_ways : Df P w K mg base 5 "all_ways" P_all_ways [] spWays) (D_touches : Df P w K mg base 1 "touches" P_touches [] spTouches) (D_way_rows : Df P w K mg base 3 "way_rows" P_way_rows [] spWayRows) : FnOk P w K mg base CX0 9 f fd P_touching (spTouching Tb) := by
  have sc := sc_touching
  refine F.ok sc (fun vs H Q E h => ?_) (fun cdv A outer s H vs Q E hr h => ?_)
  · obtain ⟨rows, rooms, cell, c, b, l, cs, bs, rfl, _⟩ := h
    rfl
  obtain ⟨rows, rooms, cell, c, b, l, cs, bs, rfl, r0, r1, rw0, rw1, tb, wc, nc, wb, nb, c0, c1, hl, k⟩ := h
  have hu := hu_of hr
  have hu64 := hr.units
  refine ⟨_, ((pss_cons (ps_expr (qcall D_check_words (by first | exact hr | exact hr.mono (by omega)) (pa_cons (qv 0) (pa_cons (qv 1) (pa_cons (qv 2) (pa_cons (qv 3) pa_nil))))))
  (pss_cons (ps_expr (qcall D_check_touch (by first | exact hr | exact hr.mono (by omega)) (pa_cons (qv 4) (pa_cons (qv 5) pa_nil))))
  (pss_cons (ps_for PassesOwn.never rfl (pi_list (qcall D_all_ways (by first | exact hr | exact hr.mono (by omega)) (pa_cons (qv 2) (pa_cons (qv 3) (pa_cons pe_bl pa_nil))))) (pg_name (i := 6) sc.nd rfl (by first | exact Or.inl rfl | exact Or.inr rfl))
  (pss_cons (ps_asg (qv 6) (pg_tup (by rfl) (pgs_cons (pg_name (i := 7) sc.nd rfl (by first | exact Or.inl rfl | exact Or.inr rfl)) (pgs_cons (pg_name (i := 8) sc.nd rfl (by first | exact Or.inl rfl | exact Or.inr rfl)) (pgs_cons (pg_name (i := 9) sc.nd rfl (by first | exact Or.inl rfl | exact Or.inr rfl)) pgs_nil)))))
  (pss_one (ps_if (PW.pt (pw_and (pt_cmpR oq_lt (pe_callB (cq_len K) (by rfl) T.len (by decide +kernel) (pa_cons (qv 8) pa_nil)) (pe_globI G.MOST_KEYS) (nomark _)) (pw_and1 (pt_val (qcall D_touches (by first | exact hr | exact hr.mono (by omega)) (pa_cons (qv 9) (pa_cons (qv 4) (pa_cons (qv 5) pa_nil))))))))
  (pss_cons (ps_set (i := 10) sc.nd rfl (by first | exact Or.inl rfl | exact Or.inr rfl) (qcall D_way_rows (by first | exact hr | exact hr.mono (by omega)) (pa_cons (qv 6) (pa_cons (qv 4) (pa_cons (qv 5) pa_nil)))))
  (pss_one (ps_ret (pe_callTy call_tuple_of (by rfl) T.tuple (by decide +kernel) (pa_cons (pe_op (oq_add K) (qv 10) (pe_op oq_mul (pe_lst (pa_cons (pe_tup (pa_cons pe_str pa_nil)) pa_nil)) (pe_callB (call_max2 rfl) (by rfl) T.max (by decide +kernel) (pa_cons pe_int (pa_cons (pe_op oq_sub (qv 0) (pe_callB (cq_len K) (by rfl) T.len (by decide +kernel) (pa_cons (qv 10) pa_nil))) pa_nil))))) pa_nil)))))
  pss_nil))))
  (pss_one (ps_ret pe_non))))) : PSs _ (_ :: _) _), ?_⟩
  refine ⟨rows, rooms, c, b, cs, bs, rfl, r0, r1, tb, wc, nc, wb, nb, fun H1 g1 => ?_⟩
  have wc1 := g1.wds tb wc
  have wb1 := g1.wds tb wb
  refine ⟨cell, l, rfl, c0, c1, hl, ?_⟩
  refine ⟨c, b, false, cs, bs, rows, 64 - 4 * rooms, rfl, wc1, nc, by omega, wb1, nb, fun wl vs ws H2 s2 nwl wL lw vws least => ?_⟩
  refine ⟨wl, rfl, ⟨_, SqL.of wL.at_⟩, ?_⟩
  have lvw := wL.len
  refine for_by (n := vs.length) (fun i σ H3 => Same H2 H3 ∧ (∀ (j : Nat) (u : Way), j < i → ws[j]? = some u → u.hops.length < 9 → touchB u.key cell l = false) ∧ ∃ x1 x2 x3 x4 x5, σ = [some (.int rows), some (.int rooms), some (.ref c), some (.ref b), some (.int cell), some (.str ⟨#[l]⟩), x1, x2, x3, x4, x5]) ⟨Same.refl H2, fun j u hj => absurd hj (by omega), _, _, _, _, _, rfl⟩ ?_ ?_ ?_ ?_
  · rintro i σ H3 hi ⟨s3, _⟩
    exact ⟨_, _, SqL.of (s3 _ _ wL.at_), List.getElem?_eq_getElem hi⟩
  · rintro σ H3 ⟨s3, _⟩
    exact ⟨_, SqL.of (s3 _ _ wL.at_), Nat.le_refl _⟩
  rotate_left
  · rintro σ H3 ⟨s3, no, x1, x2, x3, x4, x5, rfl⟩
    refine k .non H3 (g1.then (s2.trans s3)) (.inl ⟨rfl, fun u hu h9 => ?_⟩)
    obtain ⟨u', hu', ek, el⟩ := least u hu
    obtain ⟨j, hj⟩ := List.mem_iff_getElem?.mp hu'
    have := (List.getElem?_eq_some_iff.mp hj).1
    rw [← ek]
    exact no j u' (by omega) hj (by omega)
  rintro i σ H3 v H3' hi ⟨s3, no, x1, x2, x3, x4, x5, rfl⟩ ⟨rfl, hv⟩
  have hv := hv _ (SqL.of (s3 _ _ wL.at_))
  obtain ⟨u, v', gu, gv, wu⟩ := Paired.get2 (i := i) wL.is (by omega)
  rw [hv] at gv
  cases gv
  have wu3 := wu.tups (Same.tups s3)
  obtain ⟨t, hA, hvs, kv, rfl, ht, hh, hop, ik⟩ := id wu3
  have lh := Paired.length hop
  have vu := vws u (List.mem_of_getElem? gu)
  have kk := (vu.rch.ok wc.ok wb.ok).2
  refine ⟨t, _, rfl, SqT.of ht, rfl, _, _, rfl, _, _, rfl, _, _, rfl, rfl, ?_⟩
  have go : (u.hops.length < 9 → touchB u.key cell l = false) → ∀ (j : Nat) (u : Way), j < i + 1 → ws[j]? = some u → u.hops.length < 9 → touchB u.key cell l = false := fun z j u' hj e h9 => by
    by_cases hji : j < i
    · exact no j u' hji e h9
    · have ej : j = i := by omega
      subst ej
      rw [gu] at e
      cases e
      exact z h9
  refine .inr (.inl ⟨_, SqT.of hh, _, rfl, ?_⟩)
  by_cases q1 : ((hvs.length : Nat) : Int) < 9
  rotate_left
  · refine iteF' (decide_eq_false q1) (iteF ⟨s3, go fun h9 => absurd h9 (by omega), _, _, _, _, _, rfl⟩)
  refine iteT' (decide_eq_true q1) ?_
  refine ⟨kv, u.key, cell, l, rfl, ik, kk, _, rfl, ?_⟩
  by_cases q2 : touchB u.key cell l = true
  rotate_left
  · refine iteF' (Bool.eq_false_iff.mpr q2) ⟨s3, go fun _ => Bool.eq_false_iff.mpr q2, _, _, _, _, _, rfl⟩
  refine iteT' q2 ?_
  refine ⟨.ref t, u, cell, l, rfl, wu3, kk, vu.hops_key, by omega, hl, fun mp H4 s4 nmp rl4 => ?_⟩
  obtain ⟨ms, em, pm⟩ := rl4
  have lm := Paired.length pm
  rw [wayRows_len] at lm
  refine ⟨(by decide : 1 ≤ sizeLine), fun te hte => ⟨(by decide : 1 ≤ sizeLine), fun le hle => ?_⟩⟩
  have s5 := same_new hte (.tup [.str "end"])
  have s6 := same_new hle (.lst [.ref te])
  have s56 := s5.trans s6
  refine .inl ⟨_, SqL.of (s56 _ _ em), 1, rows - (ms.length : Int), rfl, ?_⟩
  have emax : (if rows - (ms.length : Int) > 1 then rows - (ms.length : Int) else 1) = max 1 (rows - ((wayRows u cell l).length : Int)) := by
    rw [wayRows_len]
    split <;> omega
  rw [emax]
  have hmx : (max 1 (rows - ((wayRows u cell l).length : Int))) ≤ 1000 := by
    rw [wayRows_len]
    omega
  have hmx1 : 1 ≤ (max 1 (rows - ((wayRows u cell l).length : Int))) := by
    rw [wayRows_len]
    omega
  obtain ⟨n, en⟩ : ∃ n : Nat, (max 1 (rows - ((wayRows u cell l).length : Int))).toNat = n := ⟨_, rfl⟩
  have hn : n ≤ 1000 := by omega
  refine ⟨le, _, [.ref te], rfl, rfl, upd_same, by omega, by omega, ?_, fun pr hpr => ?_⟩
  · rw [en, List.length_singleton, Nat.one_mul]
    exact Nat.le_of_lt (small1000 hn)
  rw [en]
  rw [rep_one]
  have s7 := same_new hpr (.lst (List.replicate n (.ref te)))
  have s57 := s56.trans s7
  refine .inl ⟨mp, pr, _, _, rfl, rfl, s57 _ _ em, upd_same, ?_, fun pc hpc => ?_⟩
  · rw [List.length_replicate]
    exact Nat.le_of_lt (Nat.lt_of_le_of_lt (show _ ≤ 10000 by omega) (by decide))
  have s8 := same_new hpc (.lst (ms ++ List.replicate n (.ref te)))
  have s58 := s57.trans s8
  refine ⟨pc, _, rfl, .inl ⟨SqL.of upd_same, fun pt hpt => ?_⟩⟩
  have s9 := same_new hpt (.tup (ms ++ List.replicate n (.ref te)))
  have sall := s2.trans (s3.trans (s4.trans (s58.trans s9)))
  have sall8 := s2.trans (s3.trans (s4.trans s58))
  refine k (.ref pt) _ (g1.then sall) (.inr ⟨u, pt, _, vu, by omega, q2, rfl, g1.free (sall8.free hpt), upd_same, ?_⟩)
  unfold endsM
  rw [en]
  refine paired_app (Paired.mapP pm fun _ _ q => q.tups (Same.tups (s58.trans s9))) (paired_reps ⟨te, rfl, ?_⟩ n)
  exact s9 _ _ (s8 _ _ (s7 _ _ (s6 _ _ upd_same)))
end
end Tm
set_option Elab.async false
set_option linter.all false
set_option maxRecDepth 100000
set_option maxHeartbeats 1000000
namespace Tm
open PySem L2
theorem sorted_sam {ns ns' : List Int} (p : ns'.Perm ns) (s' : ns'.Pairwise (· ≤ ·)) (s : ns.Pairwise (· ≤ ·)) : ns' = ns :=
  p.eq_of_pairwise (fun _ _ _ _ h1 h2 => Int.le_antisymm h1 h2) s' s
def tl2 (ks : List Wd) (c : Int) (l : Nat) : Bool := ks.any fun k => touchB k c l
def sgn (f : Nat → Bool) : Str := ⟨([103, 115].filter f).toArray⟩
theorem letters_sgn (ks : List Wd) (c : Int) : lettersM ks c = sgn (tl2 ks c) := rfl
theorem sgn_list (f : Nat → Bool) : (sgn f).cps.toList = [103, 115].filter f := rfl
theorem sgn_mem (f : Nat → Bool) (l : Nat) : l ∈ (sgn f).cps.toList ↔ (l = 103 ∨ l = 115) ∧ f l = true := by
  rw [sgn_list, List.mem_filter]
  simp
theorem sgn_ext {f g : Nat → Bool} (h : ∀ l, l = 103 ∨ l = 115 → f l = g l) : sgn f = sgn g := by
  unfold sgn
  congr 2
  refine List.filter_congr fun l hl => h l ?_
  simpa using hl
theorem sgn_empty {f : Nat → Bool} : sgn f = Str.ofString "" ↔ f 103 = false ∧ f 115 = false := by
  have e0 : (Str.ofString "").cps.toList = [] := by decide +kernel
  constructor
  · intro h
    have q : [103, 115].filter f = [] := by rw [← sgn_list, h, e0]
    have := List.filter_eq_nil_iff.mp q
    exact ⟨Bool.eq_false_iff.mpr (this 103 (by simp)), Bool.eq_false_iff.mpr (this 115 (by simp))⟩
  · rintro ⟨h1, h2⟩
    have q : [103, 115].filter f = [] := by
      rw [List.filter_eq_nil_iff]
      intro l hl
      simp only [List.mem_cons, List.not_mem_nil, or_false] at hl
      rcases hl with rfl | rfl
      · rw [h1]; exact Bool.false_ne_true
      · rw [h2]; exact Bool.false_ne_true
    unfold sgn
    rw [q]
    decide +kernel
theorem tl2_app (a b : List Wd) (c : Int) (l : Nat) : tl2 (a ++ b) c l = (tl2 a c l || tl2 b c l) := by
  unfold tl2
  rw [List.any_append]
def Dd (n : Nat) (f : Int → Str) (kvs : List (Key × V)) : Prop := ∃ ns : List Int, kvs.map (·.1) = ns.map Sum.inl ∧ ns.Nodup ∧ (∀ c ∈ ns, 0 ≤ c ∧ c < (n : Int)) ∧ (∀ c, c ∈ ns ↔ f c ≠ Str.ofString "") ∧ ∀ c, valV kvs (.inl c) = if f c = Str.ofString "" then none else some (.str (f c))
theorem Dd.nil (n : Nat) : Dd n (fun _ => Str.ofString "") [] := by
  refine ⟨[], rfl, List.nodup_nil, (fun c h => by cases h), fun c => ?_, fun c => ?_⟩
  · constructor
    · intro h; cases h
    · intro h; exact absurd rfl h
  · show none = _
    rw [if_pos rfl]
theorem Dd.ext {n : Nat} {f g : Int → Str} {kvs : List (Key × V)} (h : Dd n f kvs) (e : ∀ c, f c = g c) : Dd n g kvs := by
  have : f = g := funext e
  rw [← this]
  exact h
theorem Dd.len {n : Nat} {f : Int → Str} {kvs : List (Key × V)} (h : Dd n f kvs) : kvs.length ≤ n := by
  obtain ⟨ns, e, nd, rg, _, _⟩ := h
  have q : kvs.length = ns.length := by
    have := congrArg List.length e
    rw [List.length_map, List.length_map] at this
    exact this
  rw [q]
  have a := nodup_le (F := ns) (l := (List.range n).map fun i : Nat => (i : Int)) nd fun c hc => by
    have := rg c hc
    exact List.mem_map.mpr ⟨c.toNat, List.mem_range.mpr (by omega), by omega⟩
  rwa [List.length_map, List.length_range] at a
theorem putK_keys {kvs : List (Key × V)} {k : Key} (v : V) (h : k ∈ kvs.map (·.1)) : (putK kvs k v).map (·.1) = kvs.map (·.1) := by
  unfold putK
  rw [if_pos (by
    obtain ⟨p, hp, e⟩ := List.mem_map.mp h
    exact List.any_eq_true.mpr ⟨p, hp, decide_eq_true e⟩)]
  rw [List.map_map]
  refine List.map_congr_left fun p hp => ?_
  show (if p.1 = k then (p.1, v) else p).1 = p.1
  split <;> rfl
theorem Dd.put {n : Nat} {f : Int → Str} {kvs : List (Key × V)} (h : Dd n f kvs) {c : Int} (hc : 0 ≤ c ∧ c < (n : Int)) {z : Str} (hz : z ≠ Str.ofString "") : Dd n (fun d => if d = c then z else f d) (putK kvs (.inl c) (.str z)) := by
  obtain ⟨ns, e, nd, rg, mem, val⟩ := h
  have vv : ∀ d, valV (putK kvs (.inl c) (.str z)) (.inl d) = if (if d = c then z else f d) = Str.ofString "" then none else some (.str (if d = c then z else f d)) := fun d => by
    rw [valV_put]
    by_cases q : d = c
    · rw [if_pos (by rw [q]), if_pos q, if_neg hz]
    · rw [if_neg (fun y => q (Sum.inl.inj y)), if_neg q, val d]
  by_cases m : c ∈ ns
  · refine ⟨ns, ?_, nd, rg, fun d => ?_, vv⟩
    · rw [putK_keys _ (by rw [e]; exact List.mem_map.mpr ⟨c, m, rfl⟩)]
      exact e
    · by_cases q : d = c
      · rw [q]
        simp [m, hz]
      · show d ∈ ns ↔ (if d = c then z else f d) ≠ _
        rw [if_neg q]
        exact mem d
  · have fc : f c = Str.ofString "" := Classical.byContradiction fun q => m ((mem c).mpr q)
    have vn : valV kvs (.inl c) = none := by rw [val c, if_pos fc]
    refine ⟨ns ++ [c], ?_, ?_, fun d hd => ?_, fun d => ?_, vv⟩
    · rw [putK_new _ vn, List.map_append, e, List.map_append]
      rfl
    · exact List.nodup_append.mpr ⟨nd, by simp, fun x hx y hy q => m (by rw [← List.mem_singleton.mp hy, ← q]; exact hx)⟩
    · rcases List.mem_append.mp hd with q | q
      · exact rg d q
      · rw [List.mem_singleton.mp q]; exact hc
    · show d ∈ ns ++ [c] ↔ (if d = c then z else f d) ≠ _
      rw [List.mem_append, List.mem_singleton]
      by_cases q : d = c
      · rw [if_pos q]
        exact ⟨fun _ => hz, fun _ => .inr q⟩
      · rw [if_neg q, ← mem d]
        exact ⟨fun y => y.resolve_right q, .inl⟩
theorem Dd.get {n : Nat} {f : Int → Str} {kvs : List (Key × V)} (h : Dd n f kvs) (c : Int) : (valV kvs (.inl c)).getD (.str (Str.ofString "")) = .str (f c) := by
  obtain ⟨ns, e, nd, rg, mem, val⟩ := h
  rw [val c]
  split
  · rename_i q
    rw [q]
    rfl
  · rfl
theorem told_rise (ks : List Wd) (n : Nat) : ((toldM ks n).map (·.1)).Pairwise (· < ·) := by
  unfold toldM
  refine List.Pairwise.sublist ((List.filter_sublist).map _) ?_
  rw [List.map_map]
  refine List.Pairwise.map _ (fun a b (h : a < b) => ?_) List.pairwise_lt_range
  show ((a : Nat) : Int) < ((b : Nat) : Int)
  omega
theorem told_nd (ks : List Wd) (n : Nat) : ((toldM ks n).map (·.1)).Nodup := (told_rise ks n).imp fun h => Int.ne_of_lt h
theorem told_mem {ks : List Wd} {n : Nat} {c : Int} {z : Str} : (c, z) ∈ toldM ks n ↔ 0 ≤ c ∧ c < (n : Int) ∧ z = lettersM ks c ∧ z ≠ Str.ofString "" := by
  unfold toldM
  rw [List.mem_filter, List.mem_map]
  constructor
  · rintro ⟨⟨i, hi, e⟩, h⟩
    cases e
    have := List.mem_range.mp hi
    exact ⟨by omega, by omega, rfl, of_decide_eq_true h⟩
  · rintro ⟨h0, h1, rfl, h2⟩
    refine ⟨⟨c.toNat, List.mem_range.mpr (by omega), ?_⟩, decide_eq_true h2⟩
    have : ((c.toNat : Nat) : Int) = c := by omega
    rw [this]
theorem Dd.told {n : Nat} {ks : List Wd} {kvs : List (Key × V)} (h : Dd n (fun c => if 0 ≤ c ∧ c < (n : Int) then lettersM ks c else Str.ofString "") kvs) : ∃ ns : List Int, kvs.map (·.1) = ns.map Sum.inl ∧ ns.Nodup ∧ ns.length ≤ n ∧ ∀ ns' : List Int, ns'.Perm ns → ns'.Pairwise (· ≤ ·) → ns'.map (fun c => (c, lettersM ks c)) = toldM ks n := by
  have hl := h.len
  obtain ⟨ns, e, nd, rg, mem, val⟩ := h
  refine ⟨ns, e, nd, ?_, fun ns' p s => ?_⟩
  · have := congrArg List.length e
    rw [List.length_map, List.length_map] at this
    omega
  have pm : ns'.Perm ((toldM ks n).map (·.1)) := by
    refine p.trans ?_
    refine (List.perm_ext_iff_of_nodup nd (told_nd ks n)).mpr fun c => ?_
    rw [mem c]
    show (if 0 ≤ c ∧ c < (n : Int) then lettersM ks c else Str.ofString "") ≠ Str.ofString "" ↔ _
    constructor
    · intro q
      by_cases r : 0 ≤ c ∧ c < (n : Int)
      · rw [if_pos r] at q
        exact List.mem_map.mpr ⟨(c, lettersM ks c), told_mem.mpr ⟨r.1, r.2, rfl, q⟩, rfl⟩
      · rw [if_neg r] at q
        exact absurd rfl q
    · intro q
      obtain ⟨⟨d, z⟩, hq, rfl⟩ := List.mem_map.mp q
      obtain ⟨a, b, c', d'⟩ := told_mem.mp hq
      rw [if_pos ⟨a, b⟩, ← c']
      exact d'
  have eq : ns' = (toldM ks n).map (·.1) := sorted_sam pm s ((told_rise ks n).imp fun h => Int.le_of_lt h)
  rw [eq, List.map_map]
  have : ∀ p ∈ toldM ks n, ((fun c => (c, lettersM ks c)) ∘ fun p : Int × Str => p.1) p = p := fun p hp => by
    obtain ⟨c, z⟩ := p
    have := (told_mem.mp hp).2.2.1
    show (c, lettersM ks c) = (c, z)
    rw [this]
  exact (List.map_congr_left this).trans (List.map_id _)
theorem both_sgn (f g : Nat → Bool) (z : Str) (hz : z.cps.toList = (sgn f).cps.toList ++ (sgn g).cps.toList) : (⟨([103, 115].filter fun l => decide (l ∈ z.cps.toList)).toArray⟩ : Str) = sgn fun l => f l || g l := by
  have : sgn (fun l => decide (l ∈ z.cps.toList)) = sgn fun l => f l || g l := by
    refine sgn_ext fun l hl => ?_
    rw [Bool.eq_iff_iff, decide_eq_true_iff, hz, List.mem_append, sgn_mem, sgn_mem, Bool.or_eq_true]
    constructor
    · rintro (h | h)
      · exact .inl h.2
      · exact .inr h.2
    · rintro (h | h)
      · exact .inl ⟨hl, h⟩
      · exact .inr ⟨hl, h⟩
  exact this
def kvT (l : List (Int × Str)) : List (Key × V) := l.map fun p => ((.inl p.1 : Key), V.str p.2)
theorem kvT_none {c : Int} : ∀ {l : List (Int × Str)}, c ∉ l.map (·.1) → valV (kvT l) (.inl c) = none
  | [], _ => rfl
  | p :: l, h => by
    show valV ((.inl p.1, .str p.2) :: kvT l) _ = none
    rw [valV_neg (fun e => h (List.mem_cons.mpr (.inl (Sum.inl.inj e).symm)))]
    exact kvT_none fun m => h (List.mem_cons_of_mem _ m)
theorem kvT_some {c : Int} {z : Str} : ∀ {l : List (Int × Str)}, (l.map (·.1)).Nodup → (c, z) ∈ l → valV (kvT l) (.inl c) = some (.str z)
  | [], _, h => by cases h
  | p :: l, nd, h => by
    obtain ⟨n1, n2⟩ := List.nodup_cons.mp nd
    show valV ((.inl p.1, .str p.2) :: kvT l) _ = _
    rcases List.mem_cons.mp h with e | e
    · subst e
      exact valV_pos rfl
    · have : p.1 ≠ c := fun q => n1 (List.mem_map.mpr ⟨(c, z), e, q.symm⟩)
      rw [valV_neg (fun q => this (Sum.inl.inj q))]
      exact kvT_some n2 e
theorem merge_kvT : ∀ {l : List (Int × Str)} {a : List (Key × V)}, (∀ p ∈ l, valV a (.inl p.1) = none) → (l.map (·.1)).Nodup → mergeK a (kvT l) = a ++ kvT l
  | [], a, _, _ => by
    show mergeK a [] = a ++ []
    rw [List.append_nil]
    rfl
  | p :: l, a, h, nd => by
    obtain ⟨n1, n2⟩ := List.nodup_cons.mp nd
    have hp := h p (List.mem_cons_self ..)
    show mergeK (putK a (.inl p.1) (.str p.2)) (kvT l) = _
    rw [putK_new _ hp, merge_kvT (fun q hq => ?_) n2]
    · show _ = a ++ ((.inl p.1, .str p.2) :: kvT l)
      rw [List.append_assoc]
      rfl
    · rw [valV_snoc _ _ _ _ hp, if_neg (fun e => n1 (List.mem_map.mpr ⟨q, hq, Sum.inl.inj e⟩))]
      exact h q (List.mem_cons_of_mem _ hq)
theorem told_mrg (ks : List Wd) (n : Nat) : mergeK [] (kvT (toldM ks n)) = kvT (toldM ks n) := merge_kvT (fun _ _ => rfl) (told_nd ks n)
theorem told_lk (ks : List Wd) (n : Nat) {c : Int} (h0 : 0 ≤ c) (h1 : c < (n : Int)) : (valV (kvT (toldM ks n)) (.inl c)).getD (.str (Str.ofString "")) = .str (lettersM ks c) := by
  by_cases e : lettersM ks c = Str.ofString ""
  · rw [kvT_none, e]
    · rfl
    · intro m
      obtain ⟨⟨d, z⟩, hq, rfl⟩ := List.mem_map.mp m
      obtain ⟨_, _, rfl, nz⟩ := told_mem.mp hq
      exact nz e
  · rw [kvT_some (told_nd ks n) (told_mem.mpr ⟨h0, h1, rfl, e⟩)]
    rfl
end Tm
set_option Elab.async false
set_option linter.all false
set_option maxRecDepth 100000
set_option maxHeartbeats 1000000
namespace Tm
open PySem L2
inductive Lsr : Wd → Wd → Prop
  | refl (x : Wd) : Lsr x x
  | num (n : Int) (x : Wd) : Lsr (.num n) x
  | key {b e a b' e' a' : Int} {r r' : Str} : b ≤ b' → e' ≤ e → (∀ l, hasR r' l = true → hasR r l = true) → Lsr (.key b' e' a' r') (.key b e a r)
  | gate {a : Int} {w w' : Wd} : Lsr w' w → Lsr (.gate a w') (.gate a w)
def KLe (k' k : Wd) : Prop := (∀ c, c ∈ shown k' → c ∈ shown k) ∧ ∀ c l, touchB k' c l = true → touchB k c l = true
theorem KLe.refl (k : Wd) : KLe k k := ⟨fun _ h => h, fun _ _ h => h⟩
theorem key_le {b e a b' e' a' : Int} {r r' : Str} (h1 : b ≤ b') (h2 : e' ≤ e) (h3 : ∀ l, hasR r' l = true → hasR r l = true) : KLe (.key b' e' a' r') (.key b e a r) := by
  constructor
  · intro c hc
    have hc : c ∈ (if (hasR r' 103 && hasR r' 104) = true then upL b' (e' - b').toNat else []) := hc
    split at hc
    · rename_i q
      obtain ⟨q1, q2⟩ := Bool.and_eq_true_iff.mp q
      have := mem_upL.mp hc
      show c ∈ (if (hasR r 103 && hasR r 104) = true then upL b (e - b).toNat else [])
      rw [if_pos (Bool.and_eq_true_iff.mpr ⟨h3 _ q1, h3 _ q2⟩)]
      exact mem_upL.mpr ⟨by omega, by omega⟩
    · cases hc
  · intro c l h
    unfold touchB at h ⊢
    simp only [Bool.and_eq_true, decide_eq_true_eq] at h ⊢
    exact ⟨⟨by omega, by omega⟩, h3 l h.2⟩
theorem keyBy_less {g : Bool} {x' x : Wd} (h : Lsr x' x) : ∀ {k' : Wd}, keyBy g x' = some k' → ∃ k, keyBy g x = some k ∧ KLe k' k := by
  induction h with
  | refl x => intro k' e; exact ⟨k', e, KLe.refl _⟩
  | num n x => intro k' e; cases e
  | key h1 h2 h3 => intro k' e; cases e; exact ⟨_, rfl, key_le h1 h2 h3⟩
  | gate _ ih =>
    intro k' e
    unfold keyBy at e ⊢
    split at e
    · rename_i q
      rw [if_pos q]
      exact ih e
    · cases e
theorem paired_at {α β : Type} {R : α → β → Prop} {xs : List α} {ys : List β} (h : Paired R xs ys) {i : Nat} {x : α} (e : xs[i]? = some x) : ∃ y, ys[i]? = some y ∧ R x y := by
  obtain ⟨x', y, e1, e2, r⟩ := Paired.get2 h (List.getElem?_eq_some_iff.mp e).1
  rw [e] at e1
  cases e1
  exact ⟨y, e2, r⟩
theorem rch_less {g : Bool} {cs cs' bs bs' : List Wd} (hc : Paired Lsr cs' cs) (hb : Paired Lsr bs' bs) {k' : Wd} (h : Rch g cs' bs' k') : ∃ k, Rch g cs bs k ∧ KLe k' k := by
  induction h with
  | box m e =>
    obtain ⟨i, hi⟩ := List.getElem?_of_mem m
    obtain ⟨y, hy, r⟩ := paired_at hb hi
    obtain ⟨k, ek, le⟩ := keyBy_less r e
    exact ⟨k, .box (List.mem_of_getElem? hy) ek, le⟩
  | cell _ c w e ih =>
    obtain ⟨k1, r1, le1⟩ := ih
    obtain ⟨y, hy, r⟩ := paired_at hc w
    obtain ⟨k, ek, le⟩ := keyBy_less r e
    exact ⟨k, .cell r1 (le1.1 _ c) hy ek, le⟩
theorem keyBy_gates : ∀ {w k : Wd}, keyBy false w = some k → keyBy true w = some k
  | .num _, _, h => by cases h
  | .key _ _ _ _, _, h => h
  | .gate _ w, k, h => by
    unfold keyBy at h
    rw [if_neg (by decide)] at h
    cases h
theorem rch_gates {cs bs : List Wd} {k : Wd} (h : Rch false cs bs k) : Rch true cs bs k := by
  induction h with
  | box m e => exact .box m (keyBy_gates e)
  | cell _ c w e ih => exact .cell ih c w (keyBy_gates e)
theorem rch_boxes {g : Bool} {cs bs bs' : List Wd} (h : ∀ w k, w ∈ bs' → keyBy g w = some k → w ∈ bs) {k : Wd} (r : Rch g cs bs' k) : Rch g cs bs k := by
  induction r with
  | box m e => exact .box (h _ _ m e) e
  | cell _ c w e ih => exact .cell ih c w e
def oneB (bs : List Wd) (i : Nat) : List Wd := List.replicate i (.num 0) ++ (bs.drop i).take 1 ++ List.replicate (7 - i) (.num 0)
theorem one_mem {bs : List Wd} {i : Nat} {w k : Wd} {g : Bool} (h : w ∈ oneB bs i) (e : keyBy g w = some k) : bs[i]? = some w := by
  unfold oneB at h
  have no : ∀ n, w ∈ List.replicate n (Wd.num 0) → False := fun n z => by
    rw [List.eq_of_mem_replicate z] at e
    cases e
  rcases List.mem_append.mp h with h | h
  · rcases List.mem_append.mp h with h | h
    · exact (no _ h).elim
    · obtain ⟨j, hj⟩ := List.getElem?_of_mem h
      have hl := (List.getElem?_eq_some_iff.mp hj).1
      rw [List.length_take, List.length_drop] at hl
      obtain rfl : j = 0 := by omega
      rw [List.getElem?_take_of_lt (by omega), List.getElem?_drop] at hj
      exact hj
  · exact (no _ h).elim
theorem mem_one {bs : List Wd} {i : Nat} {w : Wd} (h : bs[i]? = some w) : w ∈ oneB bs i := by
  unfold oneB
  refine List.mem_append_left _ (List.mem_append_right _ ?_)
  refine List.mem_of_getElem? (i := 0) ?_
  rw [List.getElem?_take_of_lt (by omega), List.getElem?_drop]
  exact h
theorem rch_one {g : Bool} {cs bs : List Wd} {k : Wd} : Rch g cs bs k ↔ ∃ i, i < bs.length ∧ Rch g cs (oneB bs i) k := by
  constructor
  · intro h
    induction h with
    | box m e =>
      obtain ⟨i, hi⟩ := List.getElem?_of_mem m
      exact ⟨i, (List.getElem?_eq_some_iff.mp hi).1, .box (mem_one hi) e⟩
    | cell _ c w e ih =>
      obtain ⟨i, hi, r⟩ := ih
      exact ⟨i, hi, .cell r c w e⟩
  · rintro ⟨i, hi, r⟩
    exact rch_boxes (fun w k m e => List.mem_of_getElem? (one_mem m e)) r
theorem rch_turn {g : Bool} {cs bs : List Wd} {i : Nat} {k : Wd} : Rch g cs (bs.drop i ++ bs.take i) k ↔ Rch g cs bs k := by
  constructor
  · refine rch_boxes fun w k m _ => ?_
    rcases List.mem_append.mp m with z | z
    · exact List.mem_of_mem_drop z
    · exact List.mem_of_mem_take z
  · refine rch_boxes fun w k m _ => ?_
    rw [← List.take_append_drop i bs] at m
    rcases List.mem_append.mp m with z | z
    · exact List.mem_append_right _ z
    · exact List.mem_append_left _ z
theorem told_sub {ks ks' : List Wd} (h : ∀ c l, tl2 ks' c l = true → tl2 ks c l = true) (n : Nat) : toldM (ks ++ ks') n = toldM ks n := by
  have e : (fun (i : Nat) => ((i : Int), lettersM (ks ++ ks') (i : Int))) = fun (i : Nat) => ((i : Int), lettersM ks (i : Int)) := by
    funext i
    rw [letters_sgn, letters_sgn]
    congr 1
    refine sgn_ext fun l _ => ?_
    rw [tl2_app]
    cases q : tl2 ks' (i : Int) l with
    | true => rw [h _ _ q]; rfl
    | false => rw [Bool.or_false]
  unfold toldM
  rw [e]
theorem tl2_less {ks ks' : List Wd} (h : ∀ k', k' ∈ ks' → ∃ k, k ∈ ks ∧ KLe k' k) (c : Int) (l : Nat) (t : tl2 ks' c l = true) : tl2 ks c l = true := by
  obtain ⟨k', hk, e⟩ := List.any_eq_true.mp t
  obtain ⟨k, hk2, le⟩ := h k' hk
  exact List.any_eq_true.mpr ⟨k, hk2, le.2 c l e⟩
theorem told_same2 {ks ks' : List Wd} (h : ∀ k, k ∈ ks ↔ k ∈ ks') (n : Nat) : toldM ks n = toldM ks' n := by
  have e : (fun (i : Nat) => ((i : Int), lettersM ks (i : Int))) = fun (i : Nat) => ((i : Int), lettersM ks' (i : Int)) := by
    funext i
    rw [letters_same h]
  unfold toldM
  rw [e]
end Tm
set_option Elab.async false
set_option linter.all false
set_option maxRecDepth 100000
set_option maxHeartbeats 1000000
namespace L2
open PySem PySem.Spec PyProof.Rows
section
variable {X : Cx}
end
end L2
set_option Elab.async false
set_option linter.all false
set_option maxRecDepth 100000
set_option maxHeartbeats 1000000
namespace Tim
open PySem PyProof.Rows
def gallop' : Bool → Keyed → Array Keyed → Nat → Nat → Nat → StateT SortSt Sem (Option Nat) := sortPriv% PySem.Builtin.gallop
theorem at_int {xs : Array Keyed} (h : IntKeys xs) {i : Nat} (hi : i < xs.size) : ∃ t q, xs[i]? = some (.int (K xs i) t, q) := by
  obtain ⟨n, t, hn⟩ := h xs[i] (by simp)
  have e : xs[i]? = some xs[i] := getElem?_pos _ i hi
  refine ⟨t, xs[i].2, ?_⟩
  have e2 : xs[i] = (.int n t, xs[i].2) := Prod.ext hn rfl
  unfold K
  rw [e, e2]
  rfl
section
variable {s : Shared} {prog : Program} {w : World} {A : Around} {E : Value → Shared → Prop}
theorem wpS_elem {st : SortSt} {arr : Array Keyed} {i : Nat} {x : Keyed} {Q : Keyed → SortSt → Prop} (e : arr[i]? = some x) (h : Q x st) : wpS (model prog w) A E s (elem' arr i) Q st := by
  rw [elem'_eq, e]
  exact wpS_pure h
theorem wpS_lt {st : SortSt} {a b : Int} {t u : Tok} {p q : Value} {Q : Option Bool → SortSt → Prop} (hk : kindOf st = oneType') (h : Q (some (decide (a < b))) st) : wpS (model prog w) A E s (lt' (.int a t, p) (.int b u, q)) Q st := by
  rw [lt'_eq]
  refine wpS_bind (wpS_get ?_)
  rw [hk, keyLt'_oneType]
  refine wpS_bind (wpS_lift (wpAny_attempt (oneLt_int (And.intro rfl ?_))))
  exact wpS_pure h
def Pb (left : Bool) (kv : Int) (xs : Array Keyed) (base i : Nat) : Bool := if left = true then decide (K xs (base + i) < kv) else !decide (kv < K xs (base + i))
theorem wpS_bey {st : SortSt} {left : Bool} {kv : Int} {t0 : Tok} {q0 : Value} {xs : Array Keyed} {base i : Nat} {Q : Option Bool → SortSt → Prop} (hk : kindOf st = oneType') (h0 : IntKeys xs) (hi : base + i < xs.size) (h : Q (some (Pb left kv xs base i)) st) :
    wpS (model prog w) A E s (elem' xs (base + i) >>= fun x => if left = true then lt' x (.int kv t0, q0) else lt' (.int kv t0, q0) x >>= fun r => pure (r.map fun b => !b)) Q st := by
  obtain ⟨t, q, e⟩ := at_int h0 hi
  refine wpS_bind (wpS_elem e ?_)
  unfold Pb at h
  cases left with
  | true => exact wpS_lt hk h
  | false => exact wpS_bind (wpS_lt hk (wpS_pure h))
theorem wpS_gallop {st : SortSt} {left : Bool} {kv : Int} {t0 : Tok} {q0 : Value} {xs : Array Keyed} {base n hint : Nat} {Q : Option Nat → SortSt → Prop} (hk : kindOf st = oneType') (h0 : IntKeys xs) (hb : base + n ≤ xs.size) (hh : hint < n)
    (hs : ∀ i j, i ≤ j → j < n → K xs (base + i) ≤ K xs (base + j))
    (h : ∀ c, c ≤ n → (∀ i, i < c → Pb left kv xs base i = true) → (∀ i, c ≤ i → i < n → Pb left kv xs base i = false) → Q (some c) st) :
    wpS (model prog w) A E s (gallop' left (.int kv t0, q0) xs base n hint) Q st := by
  have down : ∀ i j, i ≤ j → j < n → Pb left kv xs base j = true → Pb left kv xs base i = true := fun i j hij hj p => by
    have := hs i j hij hj
    unfold Pb at p ⊢
    cases left with
    | true =>
      have p := of_decide_eq_true p
      exact (decide_eq_true (by omega))
    | false =>
      have p : (!decide (kv < K xs (base + j))) = true := p
      show (!decide (kv < K xs (base + i))) = true
      rw [Bool.not_eq_true'] at p ⊢
      have p := of_decide_eq_false p
      exact (decide_eq_false (by omega))
  have up : ∀ i j, i ≤ j → j < n → Pb left kv xs base i = false → Pb left kv xs base j = false := fun i j hij hj p => by
    cases e : Pb left kv xs base j with
    | false => rfl
    | true => rw [down i j hij hj e] at p; cases p
  refine wpS_bind (wpS_bey hk h0 (by omega) ?_)
  dsimp only
  obtain ⟨st0, est⟩ : ∃ st0, st0 = st := ⟨_, rfl⟩
  cases hr : Pb left kv xs base hint with
  | true =>
    rw [if_pos rfl]
    refine wpS_bind (wpS_mono (wpS_forRange (I := fun x c st' => st0 = st' ∧ ∃ l o, c = (none, l, o) ∧ l < o ∧ x + 1 ≤ o ∧ hint + l < n ∧ Pb left kv xs base (hint + l) = true)
      (Q := fun c st' => st0 = st' ∧ ∃ l o, c = (none, l, o) ∧ l < o ∧ hint + l < n ∧ Pb left kv xs base (hint + l) = true ∧ (n - hint ≤ o ∨ (hint + o < n ∧ Pb left kv xs base (hint + o) = false))) ?step ?fin ⟨est, 0, 1, rfl, by omega, by omega, by omega, hr⟩) ?post)
    case fin =>
      rintro c st' ⟨rfl, l, o, rfl, h1, h2, h3, h4⟩
      exact ⟨rfl, l, o, rfl, h1, h3, h4, .inl (by omega)⟩
    case step =>
      rintro x c st' _ hx ⟨rfl, l, o, rfl, h1, h2, h3, h4⟩
      dsimp only
      by_cases c1 : o ≥ n - hint
      · rw [if_pos c1]
        exact wpS_pure ⟨rfl, l, o, rfl, h1, h3, h4, .inl c1⟩
      · rw [if_neg c1]
        refine wpS_bind (wpS_bey (est.symm ▸ hk) h0 (by omega) ?_)
        dsimp only
        cases hm : Pb left kv xs base (hint + o) with
        | false =>
          rw [if_pos (show (!false) = true by rfl)]
          exact wpS_pure ⟨rfl, l, o, rfl, h1, h3, h4, .inr ⟨by omega, hm⟩⟩
        | true =>
          rw [if_neg (show ¬ (!true) = true by decide)]
          exact wpS_pure ⟨rfl, o, 2 * o + 1, rfl, by omega, by omega, by omega, hm⟩
    case post =>
      rintro c st' ⟨rfl, l, o, rfl, h1, h3, h4, h5⟩
      subst est
      dsimp only
      have hdn : ∀ i, i < hint + l + 1 → Pb left kv xs base i = true := fun i hi => down i _ (by omega) h3 h4
      have hup : ∀ i, hint + min o (n - hint) ≤ i → i < n → Pb left kv xs base i = false := fun i h1' h2' => by
        rcases h5 with q | ⟨q1, q2⟩
        · omega
        · exact up _ i (by omega) h2' q2
      refine wpS_bind (wpS_mono (wpS_forRange (I := fun x c st' => st0 = st' ∧ ∃ lo hi, c = (none, lo, hi) ∧ lo ≤ hi ∧ hi ≤ n ∧ hi - lo ≤ n - x ∧ (∀ i, i < lo → Pb left kv xs base i = true) ∧ (∀ i, hi ≤ i → i < n → Pb left kv xs base i = false))
        (Q := fun c st' => st0 = st' ∧ ∃ hi, c = (none, hi, hi) ∧ hi ≤ n ∧ (∀ i, i < hi → Pb left kv xs base i = true) ∧ (∀ i, hi ≤ i → i < n → Pb left kv xs base i = false)) ?sstep ?sfin ⟨rfl, _, _, rfl, by omega, by omega, by omega, hdn, hup⟩) ?spost)
      case sfin =>
        rintro c st' ⟨rfl, lo, hi, rfl, g1, g2, g3, g4, g5⟩
        obtain rfl : lo = hi := by omega
        exact ⟨rfl, lo, rfl, g2, g4, g5⟩
      case sstep =>
        rintro x c st' _ hx ⟨rfl, lo, hi, rfl, g1, g2, g3, g4, g5⟩
        dsimp only
        by_cases c1 : lo ≥ hi
        · rw [if_pos c1]
          obtain rfl : lo = hi := by omega
          exact wpS_pure ⟨rfl, lo, rfl, g2, g4, g5⟩
        · rw [if_neg c1]
          refine wpS_bind (wpS_bey hk h0 (by omega) ?_)
          dsimp only
          cases hm : Pb left kv xs base (lo + (hi - lo) / 2) with
          | true =>
            rw [if_pos rfl]
            exact wpS_pure ⟨rfl, _, _, rfl, by omega, by omega, by omega, fun i hi' => down i _ (by omega) (by omega) hm, g5⟩
          | false =>
            rw [if_neg (by decide)]
            exact wpS_pure ⟨rfl, _, _, rfl, by omega, by omega, by omega, g4, fun i h1' h2' => up _ i h1' h2' hm⟩
      case spost =>
        rintro c st' ⟨rfl, hi, rfl, g2, g4, g5⟩
        exact wpS_pure (h hi g2 g4 g5)
  | false =>
    rw [if_neg (by decide)]
    refine wpS_bind (wpS_mono (wpS_forRange (I := fun x c st' => st0 = st' ∧ ∃ l o, c = (none, l, o) ∧ l < o ∧ x + 1 ≤ o ∧ l ≤ hint ∧ Pb left kv xs base (hint - l) = false)
      (Q := fun c st' => st0 = st' ∧ ∃ l o, c = (none, l, o) ∧ l < o ∧ l ≤ hint ∧ Pb left kv xs base (hint - l) = false ∧ (hint + 1 ≤ o ∨ (o ≤ hint ∧ Pb left kv xs base (hint - o) = true))) ?step ?fin ⟨est, 0, 1, rfl, by omega, by omega, by omega, hr⟩) ?post)
    case fin =>
      rintro c st' ⟨rfl, l, o, rfl, h1, h2, h3, h4⟩
      exact ⟨rfl, l, o, rfl, h1, h3, h4, .inl (by omega)⟩
    case step =>
      rintro x c st' _ hx ⟨rfl, l, o, rfl, h1, h2, h3, h4⟩
      dsimp only
      by_cases c1 : o ≥ hint + 1
      · rw [if_pos c1]
        exact wpS_pure ⟨rfl, l, o, rfl, h1, h3, h4, .inl c1⟩
      · rw [if_neg c1]
        refine wpS_bind (wpS_bey (est.symm ▸ hk) h0 (by omega) ?_)
        dsimp only
        cases hm : Pb left kv xs base (hint - o) with
        | true =>
          rw [if_pos rfl]
          exact wpS_pure ⟨rfl, l, o, rfl, h1, h3, h4, .inr ⟨by omega, hm⟩⟩
        | false =>
          rw [if_neg (by decide)]
          exact wpS_pure ⟨rfl, o, 2 * o + 1, rfl, by omega, by omega, by omega, hm⟩
    case post =>
      rintro c st' ⟨rfl, l, o, rfl, h1, h3, h4, h5⟩
      subst est
      dsimp only
      have hdn : ∀ i, i < hint + 1 - min o (hint + 1) → Pb left kv xs base i = true := fun i hi => by
        rcases h5 with q | ⟨q1, q2⟩
        · omega
        · exact down i _ (by omega) (by omega) q2
      have hup : ∀ i, hint - l ≤ i → i < n → Pb left kv xs base i = false := fun i h1' h2' => up _ i h1' h2' h4
      refine wpS_bind (wpS_mono (wpS_forRange (I := fun x c st' => st0 = st' ∧ ∃ lo hi, c = (none, lo, hi) ∧ lo ≤ hi ∧ hi ≤ n ∧ hi - lo ≤ n - x ∧ (∀ i, i < lo → Pb left kv xs base i = true) ∧ (∀ i, hi ≤ i → i < n → Pb left kv xs base i = false))
        (Q := fun c st' => st0 = st' ∧ ∃ hi, c = (none, hi, hi) ∧ hi ≤ n ∧ (∀ i, i < hi → Pb left kv xs base i = true) ∧ (∀ i, hi ≤ i → i < n → Pb left kv xs base i = false)) ?sstep ?sfin ⟨rfl, _, _, rfl, by omega, by omega, by omega, hdn, hup⟩) ?spost)
      case sfin =>
        rintro c st' ⟨rfl, lo, hi, rfl, g1, g2, g3, g4, g5⟩
        obtain rfl : lo = hi := by omega
        exact ⟨rfl, lo, rfl, g2, g4, g5⟩
      case sstep =>
        rintro x c st' _ hx ⟨rfl, lo, hi, rfl, g1, g2, g3, g4, g5⟩
        dsimp only
        by_cases c1 : lo ≥ hi
        · rw [if_pos c1]
          obtain rfl : lo = hi := by omega
          exact wpS_pure ⟨rfl, lo, rfl, g2, g4, g5⟩
        · rw [if_neg c1]
          refine wpS_bind (wpS_bey hk h0 (by omega) ?_)
          dsimp only
          cases hm : Pb left kv xs base (lo + (hi - lo) / 2) with
          | true =>
            rw [if_pos rfl]
            exact wpS_pure ⟨rfl, _, _, rfl, by omega, by omega, by omega, fun i hi' => down i _ (by omega) (by omega) hm, g5⟩
          | false =>
            rw [if_neg (by decide)]
            exact wpS_pure ⟨rfl, _, _, rfl, by omega, by omega, by omega, g4, fun i h1' h2' => up _ i h1' h2' hm⟩
      case spost =>
        rintro c st' ⟨rfl, hi, rfl, g2, g4, g5⟩
        exact wpS_pure (h hi g2 g4 g5)
end
end Tim
set_option Elab.async false
set_option linter.all false
set_option maxRecDepth 100000
set_option maxHeartbeats 1000000
namespace Tim
open PySem PyProof.Rows
def Le (x y : Keyed) : Prop := numOf x.1 ≤ numOf y.1
structure MLo (A B out : List Keyed) (i j : Nat) : Prop where
  srt : out.Pairwise Le
  low : ∀ x ∈ out, ∀ y, (y ∈ A.drop i ∨ y ∈ B.drop j) → Le x y
  prm : (out ++ (A.drop i ++ B.drop j)).Perm (A ++ B)
def Fin (A B r : List Keyed) : Prop := r.Pairwise Le ∧ r.Perm (A ++ B)
theorem drop_cut {α : Type} (l : List α) (i k : Nat) : l.drop i = (l.drop i).take k ++ l.drop (i + k) := by
  rw [← List.drop_drop, List.take_append_drop]
theorem pw_drop {l : List Keyed} (h : l.Pairwise Le) (i : Nat) : (l.drop i).Pairwise Le := h.sublist (List.drop_sublist ..)
theorem pw_take {l : List Keyed} (h : l.Pairwise Le) (i : Nat) : (l.take i).Pairwise Le := h.sublist (List.take_sublist ..)
section
variable {A B out : List Keyed} {i j : Nat}
theorem MLo.manyA (h : MLo A B out i j) (SA : A.Pairwise Le) (k : Nat) (hk : ∀ x ∈ (A.drop i).take k, ∀ y ∈ B.drop j, Le x y) : MLo A B (out ++ (A.drop i).take k) (i + k) j := by
  have e := drop_cut A i k
  have sd := pw_drop SA i
  rw [e] at sd
  obtain ⟨s1, s2, s3⟩ := List.pairwise_append.mp sd
  refine ⟨List.pairwise_append.mpr ⟨h.srt, s1, fun x hx y hy => h.low x hx y (.inl (List.mem_of_mem_take hy))⟩, fun x hx y hy => ?_, ?_⟩
  · rcases List.mem_append.mp hx with z | z
    · refine h.low x z y (hy.imp (fun q => ?_) id)
      rw [e]
      exact List.mem_append_right _ q
    · rcases hy with q | q
      · exact s3 x z y q
      · exact hk x z y q
  · have p := h.prm
    rw [e] at p
    rw [List.append_assoc, ← List.append_assoc ((A.drop i).take k)]
    exact p
theorem MLo.manyB (h : MLo A B out i j) (SB : B.Pairwise Le) (k : Nat) (hk : ∀ x ∈ (B.drop j).take k, ∀ y ∈ A.drop i, Le x y) : MLo A B (out ++ (B.drop j).take k) i (j + k) := by
  have e := drop_cut B j k
  have sd := pw_drop SB j
  rw [e] at sd
  obtain ⟨s1, s2, s3⟩ := List.pairwise_append.mp sd
  refine ⟨List.pairwise_append.mpr ⟨h.srt, s1, fun x hx y hy => h.low x hx y (.inr (List.mem_of_mem_take hy))⟩, fun x hx y hy => ?_, ?_⟩
  · rcases List.mem_append.mp hx with z | z
    · refine h.low x z y (hy.imp id (fun q => ?_))
      rw [e]
      exact List.mem_append_right _ q
    · rcases hy with q | q
      · exact hk x z y q
      · exact s3 x z y q
  · have p := h.prm
    rw [e] at p
    refine List.Perm.trans ?_ p
    rw [List.append_assoc]
    refine .append_left _ ?_
    rw [← List.append_assoc (A.drop i), ← List.append_assoc]
    exact .append_right _ List.perm_append_comm
theorem MLo.fin (h : MLo A B out i j) (SA : A.Pairwise Le) (SB : B.Pairwise Le) (hk : A.drop i = [] ∨ B.drop j = []) : Fin A B (out ++ A.drop i ++ B.drop j) := by
  refine ⟨?_, by rw [List.append_assoc]; exact h.prm⟩
  rw [List.append_assoc]
  refine List.pairwise_append.mpr ⟨h.srt, ?_, fun x hx y hy => h.low x hx y (List.mem_append.mp hy)⟩
  refine List.pairwise_append.mpr ⟨pw_drop SA i, pw_drop SB j, fun x hx y hy => ?_⟩
  rcases hk with z | z
  · rw [z] at hx; cases hx
  · rw [z] at hy; cases hy
theorem MLo.last (h : MLo A B out i j) (SA : A.Pairwise Le) (SB : B.Pairwise Le) (hk : ∀ x ∈ B.drop j, ∀ y ∈ A.drop i, Le x y) : Fin A B (out ++ B.drop j ++ A.drop i) := by
  refine ⟨?_, ?_⟩
  · rw [List.append_assoc]
    refine List.pairwise_append.mpr ⟨h.srt, ?_, fun x hx y hy => h.low x hx y (List.mem_append.mp hy).symm⟩
    exact List.pairwise_append.mpr ⟨pw_drop SB j, pw_drop SA i, hk⟩
  · refine List.Perm.trans ?_ h.prm
    rw [List.append_assoc]
    exact List.Perm.append_left _ List.perm_append_comm
end
theorem toList_cut (a : Array Keyed) (i k : Nat) : (a.extract i (i + k)).toList = (a.toList.drop i).take k := by
  rw [Array.toList_extract]
  simp [List.extract, List.take_drop]
theorem toList_from (a : Array Keyed) (i : Nat) : (a.extract i a.size).toList = a.toList.drop i := by
  rw [Array.toList_extract]
  simp only [List.extract]
  exact (List.take_of_length_le (by simp))
theorem toList_to (a : Array Keyed) (i : Nat) : (a.extract 0 i).toList = a.toList.take i := by
  rw [Array.toList_extract]
  simp [List.extract]
theorem one_cut {a : Array Keyed} {i : Nat} (h : i < a.size) : (a.toList.drop i).take 1 = [a[i]] := by
  rw [List.drop_eq_getElem_cons (by simpa using h)]
  simp
theorem K_at {a : Array Keyed} {i : Nat} (h : i < a.size) : K a i = numOf a[i].1 := by
  unfold K
  rw [getElem?_pos a i h]
theorem mem_drop_K {a : Array Keyed} {i : Nat} {x : Keyed} (h : x ∈ a.toList.drop i) : ∃ k, i ≤ k ∧ k < a.size ∧ numOf x.1 = K a k := by
  obtain ⟨n, hn, e⟩ := List.mem_drop_iff_getElem.mp h
  rw [Array.length_toList] at hn
  refine ⟨i + n, by omega, by omega, ?_⟩
  rw [K_at (by omega), ← e]
  rfl
theorem mem_cut_K {a : Array Keyed} {i k : Nat} {x : Keyed} (h : x ∈ (a.toList.drop i).take k) : ∃ m, i ≤ m ∧ m < i + k ∧ m < a.size ∧ numOf x.1 = K a m := by
  obtain ⟨n, hn, e⟩ := List.mem_iff_getElem.mp h
  rw [List.length_take, List.length_drop, Array.length_toList] at hn
  refine ⟨i + n, by omega, by omega, by omega, ?_⟩
  rw [K_at (by omega), ← e, List.getElem_take, List.getElem_drop]
  rfl
theorem pw_of {a : Array Keyed} (h : ∀ i j, i ≤ j → j < a.size → K a i ≤ K a j) : a.toList.Pairwise Le := by
  refine List.pairwise_iff_getElem.mpr ?_
  intro i j hi hj hij
  have := h i j (by omega) (by simpa using hj)
  rw [K_at (by simpa using hi), K_at (by simpa using hj)] at this
  exact this
end Tim
set_option Elab.async false
set_option linter.all false
set_option maxRecDepth 100000
set_option maxHeartbeats 3000000
namespace Tim
open PySem PyProof.Rows
def mergeLo' : Array Keyed → Array Keyed → StateT SortSt Sem (Array Keyed) := sortPriv% PySem.Builtin.mergeLo
def setMin' : Nat → StateT SortSt Sem Unit := sortPriv% PySem.Builtin.setMinGallop
structure Two (a b : Array Keyed) : Prop where
  ia : IntKeys a
  ib : IntKeys b
  sa : ∀ i j, i ≤ j → j < a.size → K a i ≤ K a j
  sb : ∀ i j, i ≤ j → j < b.size → K b i ≤ K b j
def AM (a b out : Array Keyed) (i j : Nat) : Prop := MLo a.toList b.toList out.toList i j
section
variable {a b out : Array Keyed} {i j : Nat} {x : Keyed}
theorem AM.runA (h : AM a b out i j) (c : Two a b) (k : Nat) (le : j < b.size → ∀ m, i ≤ m → m < i + k → m < a.size → K a m ≤ K b j) : AM a b (out ++ a.extract i (i + k)) (i + k) j := by
  unfold AM
  rw [Array.toList_append, toList_cut]
  refine MLo.manyA h (pw_of c.sa) k fun x hx y hy => ?_
  obtain ⟨m, h1, h2, h3, e1⟩ := mem_cut_K hx
  obtain ⟨n, h4, h5, e2⟩ := mem_drop_K hy
  unfold Le
  rw [e1, e2]
  exact Int.le_trans (le (by omega) m h1 h2 h3) (c.sb j n h4 h5)
theorem AM.runB (h : AM a b out i j) (c : Two a b) (k : Nat) (le : i < a.size → ∀ m, j ≤ m → m < j + k → m < b.size → K b m ≤ K a i) : AM a b (out ++ b.extract j (j + k)) i (j + k) := by
  unfold AM
  rw [Array.toList_append, toList_cut]
  refine MLo.manyB h (pw_of c.sb) k fun x hx y hy => ?_
  obtain ⟨m, h1, h2, h3, e1⟩ := mem_cut_K hx
  obtain ⟨n, h4, h5, e2⟩ := mem_drop_K hy
  unfold Le
  rw [e1, e2]
  exact Int.le_trans (le (by omega) m h1 h2 h3) (c.sa i n h4 h5)
theorem push_as {a : Array Keyed} (hi : i < a.size) (e : a[i] = x) : (out.push x).toList = (out ++ a.extract i (i + 1)).toList := by
  rw [Array.toList_append, toList_cut, one_cut hi, Array.toList_push, e]
theorem AM.pushA (h : AM a b out i j) (c : Two a b) (hi : i < a.size) (e : a[i] = x) (le : j < b.size → K a i ≤ K b j) : AM a b (out.push x) (i + 1) j := by
  have := AM.runA h c 1 (fun z m h1 h2 h3 => by obtain rfl : m = i := by omega
                                                exact le z)
  unfold AM at this ⊢
  rw [push_as hi e]
  exact this
theorem AM.pushB (h : AM a b out i j) (c : Two a b) (hj : j < b.size) (e : b[j] = x) (le : i < a.size → K b j ≤ K a i) : AM a b (out.push x) i (j + 1) := by
  have := AM.runB h c 1 (fun z m h1 h2 h3 => by obtain rfl : m = j := by omega
                                                exact le z)
  unfold AM at this ⊢
  rw [push_as hj e]
  exact this
theorem AM.done (h : AM a b out i j) (c : Two a b) (hk : a.size ≤ i ∨ b.size ≤ j) : Fin a.toList b.toList (out ++ a.extract i a.size ++ b.extract j b.size).toList := by
  rw [Array.toList_append, Array.toList_append, toList_from, toList_from]
  refine MLo.fin h (pw_of c.sa) (pw_of c.sb) (hk.imp (fun z => ?_) fun z => ?_)
  · exact List.drop_eq_nil_iff.mpr (by simpa using z)
  · exact List.drop_eq_nil_iff.mpr (by simpa using z)
theorem AM.lastA (h : AM a b out i j) (c : Two a b) (hi : i + 1 = a.size) (last : ∀ j, j < b.size → K b j ≤ K a (a.size - 1)) : Fin a.toList b.toList (out ++ b.extract j b.size ++ a.extract i a.size).toList := by
  rw [Array.toList_append, Array.toList_append, toList_from, toList_from]
  refine MLo.last h (pw_of c.sa) (pw_of c.sb) fun x hx y hy => ?_
  obtain ⟨m, h1, h2, e1⟩ := mem_drop_K hx
  obtain ⟨n, h4, h5, e2⟩ := mem_drop_K hy
  obtain rfl : n = a.size - 1 := by omega
  unfold Le
  rw [e1, e2]
  exact last m h2
end
section
variable {s : Shared} {prog : Program} {w : World} {A : Around} {E : Value → Shared → Prop}
def SOk (st0 st : SortSt) : Prop := kindOf st = oneType' ∧ arrOf st = arrOf st0 ∧ pendingOf st = pendingOf st0 ∧ failedOf st = none
theorem wpS_setMin {st0 st : SortSt} {g : Nat} {Q : Unit → SortSt → Prop} (h : SOk st0 st) (k : ∀ st', SOk st0 st' → Q () st') : wpS (model prog w) A E s (setMin' g) Q st := by
  refine wpS_modify ?_
  exact k _ h
theorem wpS_elem' {st : SortSt} {arr : Array Keyed} (h0 : IntKeys arr) {i : Nat} (hi : i < arr.size) {Q : Keyed → SortSt → Prop} (h : ∀ t q, arr[i] = (.int (K arr i) t, q) → Q (.int (K arr i) t, q) st) : wpS (model prog w) A E s (elem' arr i) Q st := by
  obtain ⟨t, q, e⟩ := at_int h0 hi
  refine wpS_elem e (h t q ?_)
  rw [getElem?_pos arr i hi] at e
  exact Option.some.inj e
theorem Pb_f {kv : Int} {xs : Array Keyed} {base i : Nat} : (Pb false kv xs base i = true ↔ K xs (base + i) ≤ kv) ∧ (Pb false kv xs base i = false ↔ kv < K xs (base + i)) := by
  unfold Pb
  by_cases h : kv < K xs (base + i)
  · simp [h]
  · simp [h]; omega
theorem Pb_t {kv : Int} {xs : Array Keyed} {base i : Nat} : (Pb true kv xs base i = true ↔ K xs (base + i) < kv) ∧ (Pb true kv xs base i = false ↔ kv ≤ K xs (base + i)) := by
  unfold Pb
  by_cases h : K xs (base + i) < kv
  · simp [h]
  · simp [h]; omega
theorem wpS_right {st : SortSt} {kv : Int} {t0 : Tok} {q0 : Value} {xs : Array Keyed} {base n hint : Nat} {Q : Option Nat → SortSt → Prop} (hk : kindOf st = oneType') (h0 : IntKeys xs) (sx : ∀ i j, i ≤ j → j < xs.size → K xs i ≤ K xs j) (hb : base + n ≤ xs.size) (hh : hint < n)
    (h : ∀ c, c ≤ n → (∀ m, base ≤ m → m < base + c → K xs m ≤ kv) → (∀ m, base + c ≤ m → m < base + n → kv < K xs m) → Q (some c) st) : wpS (model prog w) A E s (gallop' false (.int kv t0, q0) xs base n hint) Q st :=
  wpS_gallop hk h0 hb hh (fun i j hij hj => sx _ _ (by omega) (by omega)) fun c hc h1 h2 => h c hc (fun m m1 m2 => by
    have := Pb_f.1.mp (h1 (m - base) (by omega))
    rwa [show base + (m - base) = m by omega] at this) fun m m1 m2 => by
    have := Pb_f.2.mp (h2 (m - base) (by omega) (by omega))
    rwa [show base + (m - base) = m by omega] at this
theorem wpS_left {st : SortSt} {kv : Int} {t0 : Tok} {q0 : Value} {xs : Array Keyed} {base n hint : Nat} {Q : Option Nat → SortSt → Prop} (hk : kindOf st = oneType') (h0 : IntKeys xs) (sx : ∀ i j, i ≤ j → j < xs.size → K xs i ≤ K xs j) (hb : base + n ≤ xs.size) (hh : hint < n)
    (h : ∀ c, c ≤ n → (∀ m, base ≤ m → m < base + c → K xs m < kv) → (∀ m, base + c ≤ m → m < base + n → kv ≤ K xs m) → Q (some c) st) : wpS (model prog w) A E s (gallop' true (.int kv t0, q0) xs base n hint) Q st :=
  wpS_gallop hk h0 hb hh (fun i j hij hj => sx _ _ (by omega) (by omega)) fun c hc h1 h2 => h c hc (fun m m1 m2 => by
    have := Pb_t.1.mp (h1 (m - base) (by omega))
    rwa [show base + (m - base) = m by omega] at this) fun m m1 m2 => by
    have := Pb_t.2.mp (h2 (m - base) (by omega) (by omega))
    rwa [show base + (m - base) = m by omega] at this
theorem wpS_lo {st0 st : SortSt} {a b : Array Keyed} {Q : Array Keyed → SortSt → Prop} (so : SOk st0 st) (c : Two a b) (na : 0 < a.size) (nb : 0 < b.size)
    (first : K b 0 ≤ K a 0) (last : ∀ j, j < b.size → K b j ≤ K a (a.size - 1)) (h : ∀ r st', SOk st0 st' → Fin a.toList b.toList r.toList → Q r st') : wpS (model prog w) A E s (mergeLo' a b) Q st := by
  have ha := c.ia
  have hb := c.ib
  refine wpS_bind (wpS_lift (wpAny_rule (And.intro rfl ?_)))
  refine wpS_bind (wpS_elem' hb nb fun t q e0 => ?_)
  have m0 : AM a b #[] 0 0 := ⟨List.Pairwise.nil, fun x hx => (by simp at hx), by simp⟩
  have m1 : AM a b #[(Value.int (K b 0) t, q)] 0 1 := AM.pushB (out := #[]) m0 c nb e0 fun _ => first
  dsimp only
  by_cases c1 : 1 = b.size
  · rw [if_pos (beq_iff_eq.mpr c1)]
    exact wpS_pure (h _ _ so (m1.done c (.inr (by omega))))
  rw [if_neg (fun z => c1 (beq_iff_eq.mp z))]
  by_cases c2 : 0 + 1 = a.size
  · rw [if_pos (beq_iff_eq.mpr c2)]
    exact wpS_pure (h _ _ so (m1.lastA c c2 last))
  rw [if_neg (fun z => c2 (beq_iff_eq.mp z))]
  refine wpS_bind (wpS_get ?_)
  refine wpS_bind (wpS_mono (wpS_forRange (I := fun x c st' => SOk st0 st' ∧ c.1 = none ∧ AM a b c.2.1 c.2.2.1 c.2.2.2.1 ∧ c.2.2.1 + 1 < a.size ∧ c.2.2.2.1 < b.size ∧ x + 1 ≤ c.2.2.1 + c.2.2.2.1)
    (Q := fun c st' => SOk st0 st' ∧ ∃ r, c.1 = some r ∧ Fin a.toList b.toList r.toList) ?step ?fin ⟨so, rfl, m1, (by show 0 + 1 < _; omega), (by show 1 < _; omega), (by show 0 + 1 ≤ 0 + 1; omega)⟩) ?post)
  case post =>
    rintro ⟨r, cc⟩ st' ⟨so', r', rfl, F⟩
    exact wpS_pure (h _ _ so' F)
  case fin =>
    rintro ⟨r, out, i, j, mg⟩ st' ⟨so', e, m, hi, hj, hp⟩
    dsimp only at hi hj hp
    omega
  case step =>
    rintro x ⟨r, out, i, j, mg⟩ st' _ hx ⟨so', e, m, hi, hj, hp⟩
    dsimp only at e m hi hj hp ⊢
    subst e
    refine wpS_bind (wpS_mono (wpS_forRange (I := fun _ c st' => SOk st0 st' ∧ c.1 = none ∧ AM a b c.2.1 c.2.2.1 c.2.2.2.1 ∧ c.2.2.1 + 1 < a.size ∧ c.2.2.2.1 < b.size ∧ x + 1 ≤ c.2.2.1 + c.2.2.2.1)
      (Q := fun c st' => SOk st0 st' ∧ ((∃ r, c.1 = some r ∧ Fin a.toList b.toList r.toList) ∨ (c.1 = none ∧ AM a b c.2.1 c.2.2.1 c.2.2.2.1 ∧ c.2.2.1 + 1 < a.size ∧ c.2.2.2.1 < b.size ∧ x + 1 ≤ c.2.2.1 + c.2.2.2.1))) ?step1 ?fin1 ⟨so', rfl, m, hi, hj, hp⟩) ?post1)
    case fin1 =>
      rintro cc st' ⟨so', e, m⟩
      exact ⟨so', .inr ⟨e, m⟩⟩
    case step1 =>
      rintro y ⟨r, out, i, j, ac, bc⟩ st' _ _ ⟨so', e, m, hi, hj, hp⟩
      dsimp only at e m hi hj hp ⊢
      subst e
      refine wpS_bind (wpS_elem' hb hj fun t1 q1 e1 => ?_)
      refine wpS_bind (wpS_elem' ha (by omega) fun t2 q2 e2 => ?_)
      refine wpS_bind (wpS_lt so'.1 ?_)
      dsimp only
      by_cases cw : K b j < K a i
      · rw [if_pos (decide_eq_true cw)]
        refine wpS_bind (wpS_elem' hb hj fun t3 q3 e3 => ?_)
        have m' := m.pushB c hj e3 fun _ => Int.le_of_lt cw
        by_cases cb : j + 1 = b.size
        · rw [if_pos (beq_iff_eq.mpr cb)]
          exact wpS_pure ⟨so', .inl ⟨_, rfl, m'.done c (.inr (by omega))⟩⟩
        · rw [if_neg (fun z => cb (beq_iff_eq.mp z))]
          split
          · exact wpS_pure ⟨so', .inr ⟨rfl, m', hi, (by show j + 1 < _; omega), (by show x + 1 ≤ i + (j + 1); omega)⟩⟩
          · exact wpS_pure ⟨so', rfl, m', hi, (by show j + 1 < _; omega), (by show x + 1 ≤ i + (j + 1); omega)⟩
      · rw [if_neg (by rw [decide_eq_false cw]; exact Bool.false_ne_true)]
        refine wpS_bind (wpS_elem' ha (by omega) fun t3 q3 e3 => ?_)
        have m' := m.pushA c (by omega) e3 fun _ => by omega
        by_cases ca : i + 1 + 1 = a.size
        · rw [if_pos (beq_iff_eq.mpr ca)]
          exact wpS_pure ⟨so', .inl ⟨_, rfl, m'.lastA c ca last⟩⟩
        · rw [if_neg (fun z => ca (beq_iff_eq.mp z))]
          split
          · exact wpS_pure ⟨so', .inr ⟨rfl, m', (by show i + 1 + 1 < _; omega), hj, (by show x + 1 ≤ i + 1 + j; omega)⟩⟩
          · exact wpS_pure ⟨so', rfl, m', (by show i + 1 + 1 < _; omega), hj, (by show x + 1 ≤ i + 1 + j; omega)⟩
    case post1 =>
      rintro ⟨r, out, i, j, ac, bc⟩ st' ⟨so', ⟨r', e, F⟩ | ⟨e, m, hi, hj, hp⟩⟩
      · dsimp only at e ⊢
        subst e
        exact wpS_pure ⟨so', r', rfl, F⟩
      dsimp only at e m hi hj hp ⊢
      subst e
      refine wpS_bind (wpS_lift (wpAny_rule (And.intro rfl ?_)))
      refine wpS_bind (wpS_mono (wpS_forRange (I := fun y c st' => SOk st0 st' ∧ c.1 = none ∧ AM a b c.2.1 c.2.2.1 c.2.2.2.1 ∧ c.2.2.1 + 1 < a.size ∧ c.2.2.2.1 < b.size ∧ x + 1 + min y 1 ≤ c.2.2.1 + c.2.2.2.1)
        (Q := fun c st' => SOk st0 st' ∧ ((∃ r, c.1 = some r ∧ Fin a.toList b.toList r.toList) ∨ (c.1 = none ∧ AM a b c.2.1 c.2.2.1 c.2.2.2.1 ∧ c.2.2.1 + 1 < a.size ∧ c.2.2.2.1 < b.size ∧ x + 1 + 1 ≤ c.2.2.1 + c.2.2.2.1))) ?step2 ?fin2 ⟨so', rfl, m, hi, hj, (by show x + 1 + min 0 1 ≤ i + j; omega)⟩) ?post2)
      case fin2 =>
        rintro cc st' ⟨so', e, m, h1, h2, h3⟩
        exact ⟨so', .inr ⟨e, m, h1, h2, by omega⟩⟩
      case post2 =>
        rintro ⟨r, out, i, j, mg2, ac, bc⟩ st' ⟨so', ⟨r', e, F⟩ | ⟨e, m, hi, hj, hp⟩⟩
        · dsimp only at e ⊢
          subst e
          exact wpS_pure ⟨so', r', rfl, F⟩
        dsimp only at e m hi hj hp ⊢
        subst e
        refine wpS_bind (wpS_setMin so' fun st2 so2 => ?_)
        exact wpS_pure ⟨so2, rfl, m, hi, hj, hp⟩
      case step2 =>
        rintro y ⟨r, out, i, j, mg2, ac, bc⟩ st' _ _ ⟨so', e, m, hi, hj, hp⟩
        dsimp only at e m hi hj hp ⊢
        subst e
        by_cases cm : mg2 > 1
        all_goals
          first | rw [if_pos cm] | rw [if_neg cm]
          refine wpS_bind (wpS_setMin so' fun st2 so2 => ?_)
          refine wpS_bind (wpS_elem' hb hj fun t1 q1 e1 => ?_)
          refine wpS_bind (wpS_right so2.1 ha c.sa (by omega) (by omega) fun k hk1 hk2 hk3 => ?_)
          dsimp only
          by_cases k0 : k > 0
          · rw [if_pos k0]
            have m2 := m.runA c k fun _ n h1 h2 h3 => hk2 n h1 h2
            by_cases cl : i + k + 1 = a.size
            · rw [if_pos (beq_iff_eq.mpr cl)]
              exact wpS_pure ⟨so2, .inl ⟨_, rfl, m2.lastA c cl last⟩⟩
            rw [if_neg (fun z => cl (beq_iff_eq.mp z))]
            by_cases cd : i + k = a.size
            · rw [if_pos (beq_iff_eq.mpr cd)]
              exact wpS_pure ⟨so2, .inl ⟨_, rfl, m2.done c (.inl (by omega))⟩⟩
            rw [if_neg (fun z => cd (beq_iff_eq.mp z))]
            refine wpS_bind (wpS_elem' hb hj fun t2 q2 e2 => ?_)
            have m3 := m2.pushB c hj e2 fun _ => Int.le_of_lt (hk3 (i + k) (by omega) (by omega))
            by_cases cb : j + 1 = b.size
            · rw [if_pos (beq_iff_eq.mpr cb)]
              exact wpS_pure ⟨so2, .inl ⟨_, rfl, m3.done c (.inr (by omega))⟩⟩
            rw [if_neg (fun z => cb (beq_iff_eq.mp z))]
            refine wpS_bind (wpS_elem' ha (show i + k < a.size by omega) fun t3 q3 e3 => ?_)
            refine wpS_bind (wpS_left so2.1 hb c.sb (by omega) (by omega) fun n hn1 hn2 hn3 => ?_)
            dsimp only
            by_cases n0 : n > 0
            · rw [if_pos n0]
              have m4 := m3.runB c n fun _ u h1 h2 h3 => Int.le_of_lt (hn2 u h1 h2)
              by_cases cb2 : j + 1 + n = b.size
              · rw [if_pos (beq_iff_eq.mpr cb2)]
                exact wpS_pure ⟨so2, .inl ⟨_, rfl, m4.done c (.inr (by omega))⟩⟩
              · rw [if_neg (fun z => cb2 (beq_iff_eq.mp z))]
                refine wpS_bind (wpS_elem' ha (show i + k < a.size by omega) fun tA qA eA => ?_)
                have m5 := m4.pushA c (by omega) eA fun _ => hn3 (j + 1 + n) (by omega) (by omega)
                by_cases cl2 : i + k + 1 + 1 = a.size
                · rw [if_pos (beq_iff_eq.mpr cl2)]
                  exact wpS_pure ⟨so2, .inl ⟨_, rfl, m5.lastA c cl2 last⟩⟩
                rw [if_neg (fun z => cl2 (beq_iff_eq.mp z))]
                split
                · exact wpS_pure ⟨so2, .inr ⟨rfl, m5, (by show i + k + 1 + 1 < _; omega), (by show j + 1 + n < _; omega), (by show x + 1 + 1 ≤ i + k + 1 + (j + 1 + n); omega)⟩⟩
                · exact wpS_pure ⟨so2, rfl, m5, (by show i + k + 1 + 1 < _; omega), (by show j + 1 + n < _; omega), (by show x + 1 + min (y + 1) 1 ≤ i + k + 1 + (j + 1 + n); omega)⟩
            · rw [if_neg n0]
              have m4 := m3
              obtain rfl : n = 0 := by omega
              · refine wpS_bind (wpS_elem' ha (show i + k < a.size by omega) fun tA qA eA => ?_)
                have m5 := m4.pushA c (by omega) eA fun _ => hn3 (j + 1) (by omega) (by omega)
                by_cases cl2 : i + k + 1 + 1 = a.size
                · rw [if_pos (beq_iff_eq.mpr cl2)]
                  exact wpS_pure ⟨so2, .inl ⟨_, rfl, m5.lastA c cl2 last⟩⟩
                rw [if_neg (fun z => cl2 (beq_iff_eq.mp z))]
                split
                · exact wpS_pure ⟨so2, .inr ⟨rfl, m5, (by show i + k + 1 + 1 < _; omega), (by show j + 1 < _; omega), (by show x + 1 + 1 ≤ i + k + 1 + (j + 1); omega)⟩⟩
                · exact wpS_pure ⟨so2, rfl, m5, (by show i + k + 1 + 1 < _; omega), (by show j + 1 < _; omega), (by show x + 1 + min (y + 1) 1 ≤ i + k + 1 + (j + 1); omega)⟩
          · rw [if_neg k0]
            have m2 := m
            obtain rfl : k = 0 := by omega
            refine wpS_bind (wpS_elem' hb hj fun t2 q2 e2 => ?_)
            have m3 := m2.pushB c hj e2 fun _ => Int.le_of_lt (hk3 (i) (by omega) (by omega))
            by_cases cb : j + 1 = b.size
            · rw [if_pos (beq_iff_eq.mpr cb)]
              exact wpS_pure ⟨so2, .inl ⟨_, rfl, m3.done c (.inr (by omega))⟩⟩
            rw [if_neg (fun z => cb (beq_iff_eq.mp z))]
            refine wpS_bind (wpS_elem' ha (show i < a.size by omega) fun t3 q3 e3 => ?_)
            refine wpS_bind (wpS_left so2.1 hb c.sb (by omega) (by omega) fun n hn1 hn2 hn3 => ?_)
            dsimp only
            by_cases n0 : n > 0
            · rw [if_pos n0]
              have m4 := m3.runB c n fun _ u h1 h2 h3 => Int.le_of_lt (hn2 u h1 h2)
              by_cases cb2 : j + 1 + n = b.size
              · rw [if_pos (beq_iff_eq.mpr cb2)]
                exact wpS_pure ⟨so2, .inl ⟨_, rfl, m4.done c (.inr (by omega))⟩⟩
              · rw [if_neg (fun z => cb2 (beq_iff_eq.mp z))]
                refine wpS_bind (wpS_elem' ha (show i < a.size by omega) fun tA qA eA => ?_)
                have m5 := m4.pushA c (by omega) eA fun _ => hn3 (j + 1 + n) (by omega) (by omega)
                by_cases cl2 : i + 1 + 1 = a.size
                · rw [if_pos (beq_iff_eq.mpr cl2)]
                  exact wpS_pure ⟨so2, .inl ⟨_, rfl, m5.lastA c cl2 last⟩⟩
                rw [if_neg (fun z => cl2 (beq_iff_eq.mp z))]
                split
                · exact wpS_pure ⟨so2, .inr ⟨rfl, m5, (by show i + 1 + 1 < _; omega), (by show j + 1 + n < _; omega), (by show x + 1 + 1 ≤ i + 1 + (j + 1 + n); omega)⟩⟩
                · exact wpS_pure ⟨so2, rfl, m5, (by show i + 1 + 1 < _; omega), (by show j + 1 + n < _; omega), (by show x + 1 + min (y + 1) 1 ≤ i + 1 + (j + 1 + n); omega)⟩
            · rw [if_neg n0]
              have m4 := m3
              obtain rfl : n = 0 := by omega
              · refine wpS_bind (wpS_elem' ha (show i < a.size by omega) fun tA qA eA => ?_)
                have m5 := m4.pushA c (by omega) eA fun _ => hn3 (j + 1) (by omega) (by omega)
                by_cases cl2 : i + 1 + 1 = a.size
                · rw [if_pos (beq_iff_eq.mpr cl2)]
                  exact wpS_pure ⟨so2, .inl ⟨_, rfl, m5.lastA c cl2 last⟩⟩
                rw [if_neg (fun z => cl2 (beq_iff_eq.mp z))]
                split
                · exact wpS_pure ⟨so2, .inr ⟨rfl, m5, (by show i + 1 + 1 < _; omega), (by show j + 1 < _; omega), (by show x + 1 + 1 ≤ i + 1 + (j + 1); omega)⟩⟩
                · exact wpS_pure ⟨so2, rfl, m5, (by show i + 1 + 1 < _; omega), (by show j + 1 < _; omega), (by show x + 1 + min (y + 1) 1 ≤ i + 1 + (j + 1); omega)⟩
end
end Tim
set_option Elab.async false
set_option linter.all false
set_option maxRecDepth 100000
set_option maxHeartbeats 3000000
namespace Tim
open PySem PyProof.Rows
def mergeHi' : Array Keyed → Array Keyed → StateT SortSt Sem (Array Keyed) := sortPriv% PySem.Builtin.mergeHi
structure MHi (A B out : List Keyed) (i j : Nat) : Prop where
  srt : out.reverse.Pairwise Le
  low : ∀ x, (x ∈ A.take i ∨ x ∈ B.take j) → ∀ y ∈ out, Le x y
  prm : (A.take i ++ B.take j ++ out.reverse).Perm (A ++ B)
theorem take_cut {α : Type} (l : List α) {i i' : Nat} (h : i' ≤ i) : l.take i = l.take i' ++ (l.take i).drop i' := by
  have := List.take_append_drop i' (l.take i)
  rw [List.take_take, Nat.min_eq_left h] at this
  exact this.symm
section
variable {A B out : List Keyed} {i i' j j' : Nat}
theorem MHi.manyA (h : MHi A B out i j) (SA : A.Pairwise Le) (hi : i' ≤ i) (hk : ∀ x ∈ B.take j, ∀ y ∈ (A.take i).drop i', Le x y) : MHi A B (out ++ ((A.take i).drop i').reverse) i' j := by
  have e := take_cut A hi
  have sd := pw_take SA i
  rw [e] at sd
  obtain ⟨s1, s2, s3⟩ := List.pairwise_append.mp sd
  refine ⟨?_, fun x hx y hy => ?_, ?_⟩
  · rw [List.reverse_append, List.reverse_reverse]
    exact List.pairwise_append.mpr ⟨s2, h.srt, fun x hx y hy => h.low x (.inl (List.mem_of_mem_drop hx)) y (List.mem_reverse.mp hy)⟩
  · rcases List.mem_append.mp hy with z | z
    · refine h.low x (hx.imp (fun q => ?_) id) y z
      rw [e]
      exact List.mem_append_left _ q
    · have z := List.mem_reverse.mp z
      rcases hx with q | q
      · exact s3 x q y z
      · exact hk x q y z
  · rw [List.reverse_append, List.reverse_reverse]
    refine List.Perm.trans ?_ h.prm
    rw [← List.append_assoc]
    refine List.Perm.append_right _ ?_
    have q : (A.take i' ++ B.take j ++ (A.take i).drop i').Perm (A.take i' ++ (A.take i).drop i' ++ B.take j) := by
      rw [List.append_assoc, List.append_assoc]
      exact List.Perm.append_left _ List.perm_append_comm
    rw [← e] at q
    exact q
theorem MHi.manyB (h : MHi A B out i j) (SB : B.Pairwise Le) (hj : j' ≤ j) (hk : ∀ x ∈ A.take i, ∀ y ∈ (B.take j).drop j', Le x y) : MHi A B (out ++ ((B.take j).drop j').reverse) i j' := by
  have e := take_cut B hj
  have sd := pw_take SB j
  rw [e] at sd
  obtain ⟨s1, s2, s3⟩ := List.pairwise_append.mp sd
  refine ⟨?_, fun x hx y hy => ?_, ?_⟩
  · rw [List.reverse_append, List.reverse_reverse]
    exact List.pairwise_append.mpr ⟨s2, h.srt, fun x hx y hy => h.low x (.inr (List.mem_of_mem_drop hx)) y (List.mem_reverse.mp hy)⟩
  · rcases List.mem_append.mp hy with z | z
    · refine h.low x (hx.imp id (fun q => ?_)) y z
      rw [e]
      exact List.mem_append_left _ q
    · have z := List.mem_reverse.mp z
      rcases hx with q | q
      · exact hk x q y z
      · exact s3 x q y z
  · rw [List.reverse_append, List.reverse_reverse]
    have p := h.prm
    have e2 : A.take i ++ B.take j' ++ ((B.take j).drop j' ++ out.reverse) = A.take i ++ B.take j ++ out.reverse := by
      conv => rhs; rw [e]
      simp only [List.append_assoc]
    rw [e2]
    exact p
theorem MHi.fin (h : MHi A B out i j) (SA : A.Pairwise Le) (SB : B.Pairwise Le) (hk : A.take i = [] ∨ B.take j = []) : Fin A B (A.take i ++ B.take j ++ out.reverse) := by
  refine ⟨?_, h.prm⟩
  refine List.pairwise_append.mpr ⟨?_, h.srt, fun x hx y hy => h.low x (List.mem_append.mp hx) y (List.mem_reverse.mp hy)⟩
  refine List.pairwise_append.mpr ⟨pw_take SA i, pw_take SB j, fun x hx y hy => ?_⟩
  rcases hk with z | z
  · rw [z] at hx; cases hx
  · rw [z] at hy; cases hy
theorem MHi.first (h : MHi A B out i j) (SA : A.Pairwise Le) (SB : B.Pairwise Le) (hk : ∀ x ∈ B.take j, ∀ y ∈ A.take i, Le x y) : Fin A B (B.take j ++ A.take i ++ out.reverse) := by
  refine ⟨?_, List.Perm.trans (List.Perm.append_right _ List.perm_append_comm) h.prm⟩
  refine List.pairwise_append.mpr ⟨?_, h.srt, fun x hx y hy => h.low x (List.mem_append.mp hx).symm y (List.mem_reverse.mp hy)⟩
  exact List.pairwise_append.mpr ⟨pw_take SB j, pw_take SA i, hk⟩
end
theorem toList_mid (a : Array Keyed) (i k : Nat) : (a.extract i k).toList = (a.toList.take k).drop i := by
  rw [Array.toList_extract]
  simp [List.extract, List.drop_take]
theorem mem_take_K {a : Array Keyed} {i : Nat} {x : Keyed} (h : x ∈ a.toList.take i) : ∃ m, m < i ∧ m < a.size ∧ numOf x.1 = K a m := by
  obtain ⟨n, hn, e⟩ := List.mem_iff_getElem.mp h
  rw [List.length_take, Array.length_toList] at hn
  refine ⟨n, by omega, by omega, ?_⟩
  rw [K_at (by omega), ← e, List.getElem_take]
  rfl
theorem mem_mid_K {a : Array Keyed} {i k : Nat} {x : Keyed} (h : x ∈ (a.toList.take k).drop i) : ∃ m, i ≤ m ∧ m < k ∧ m < a.size ∧ numOf x.1 = K a m := by
  obtain ⟨n, hn, e⟩ := List.mem_iff_getElem.mp h
  rw [List.length_drop, List.length_take, Array.length_toList] at hn
  refine ⟨i + n, by omega, by omega, by omega, ?_⟩
  rw [K_at (by omega), ← e, List.getElem_drop, List.getElem_take]
  rfl
theorem one_mid {a : Array Keyed} {i : Nat} (h : i < a.size) : (a.toList.take (i + 1)).drop i = [a[i]] := by
  have := one_cut h
  rw [← toList_cut, toList_mid] at this
  exact this
def AH (a b out : Array Keyed) (i j : Nat) : Prop := MHi a.toList b.toList out.toList i j
section
variable {a b out : Array Keyed} {i i' j j' : Nat} {x : Keyed}
theorem AH.runA (h : AH a b out i j) (c : Two a b) (hi : i' ≤ i) (le : 0 < j → ∀ m, i' ≤ m → m < i → m < a.size → K b (j - 1) ≤ K a m) (hj : j ≤ b.size) : AH a b (out ++ (a.extract i' i).reverse) i' j := by
  unfold AH
  rw [Array.toList_append, Array.toList_reverse, toList_mid]
  refine MHi.manyA h (pw_of c.sa) hi fun x hx y hy => ?_
  obtain ⟨m, h1, h2, e1⟩ := mem_take_K hx
  obtain ⟨n, h4, h5, h6, e2⟩ := mem_mid_K hy
  unfold Le
  rw [e1, e2]
  exact Int.le_trans (c.sb m (j - 1) (by omega) (by omega)) (le (by omega) n h4 h5 h6)
theorem AH.runB (h : AH a b out i j) (c : Two a b) (hj : j' ≤ j) (le : 0 < i → ∀ m, j' ≤ m → m < j → m < b.size → K a (i - 1) ≤ K b m) (hi : i ≤ a.size) : AH a b (out ++ (b.extract j' j).reverse) i j' := by
  unfold AH
  rw [Array.toList_append, Array.toList_reverse, toList_mid]
  refine MHi.manyB h (pw_of c.sb) hj fun x hx y hy => ?_
  obtain ⟨m, h1, h2, e1⟩ := mem_take_K hx
  obtain ⟨n, h4, h5, h6, e2⟩ := mem_mid_K hy
  unfold Le
  rw [e1, e2]
  exact Int.le_trans (c.sa m (i - 1) (by omega) (by omega)) (le (by omega) n h4 h5 h6)
theorem rpush_as {a : Array Keyed} (hi : i < a.size) (e : a[i] = x) : (out.push x).toList = (out ++ (a.extract i (i + 1)).reverse).toList := by
  rw [Array.toList_append, Array.toList_reverse, toList_mid, one_mid hi, Array.toList_push, e]
  rfl
theorem AH.pushA (h : AH a b out i j) (c : Two a b) (hi : 0 < i) (ha : i ≤ a.size) (e : a[i - 1]'(by omega) = x) (hj : j ≤ b.size) (le : 0 < j → K b (j - 1) ≤ K a (i - 1)) : AH a b (out.push x) (i - 1) j := by
  have := AH.runA (i' := i - 1) h c (by omega) (fun z m h1 h2 h3 => by obtain rfl : m = i - 1 := by omega
                                                                       exact le z) hj
  unfold AH at this ⊢
  rw [rpush_as (show i - 1 < a.size by omega) e, show i - 1 + 1 = i by omega]
  exact this
theorem AH.pushB (h : AH a b out i j) (c : Two a b) (hj : 0 < j) (hb : j ≤ b.size) (e : b[j - 1]'(by omega) = x) (hi : i ≤ a.size) (le : 0 < i → K a (i - 1) ≤ K b (j - 1)) : AH a b (out.push x) i (j - 1) := by
  have := AH.runB (j' := j - 1) h c (by omega) (fun z m h1 h2 h3 => by obtain rfl : m = j - 1 := by omega
                                                                       exact le z) hi
  unfold AH at this ⊢
  rw [rpush_as (show j - 1 < b.size by omega) e, show j - 1 + 1 = j by omega]
  exact this
theorem AH.done (h : AH a b out i j) (c : Two a b) (hk : i = 0 ∨ j = 0) : Fin a.toList b.toList (a.extract 0 i ++ b.extract 0 j ++ out.reverse).toList := by
  rw [Array.toList_append, Array.toList_append, toList_to, toList_to, Array.toList_reverse]
  refine MHi.fin h (pw_of c.sa) (pw_of c.sb) (hk.imp (fun z => ?_) fun z => ?_)
  · rw [z]; rfl
  · rw [z]; rfl
theorem AH.firstB (h : AH a b out i j) (c : Two a b) (hj : j = 1) (first : K b 0 ≤ K a 0) : Fin a.toList b.toList (b.extract 0 j ++ a.extract 0 i ++ out.reverse).toList := by
  rw [Array.toList_append, Array.toList_append, toList_to, toList_to, Array.toList_reverse]
  refine MHi.first h (pw_of c.sa) (pw_of c.sb) fun x hx y hy => ?_
  obtain ⟨m, h1, h2, e1⟩ := mem_take_K hx
  obtain ⟨n, h4, h5, e2⟩ := mem_take_K hy
  obtain rfl : m = 0 := by omega
  unfold Le
  rw [e1, e2]
  exact Int.le_trans first (c.sa 0 n (Nat.zero_le _) h5)
end
section
variable {s : Shared} {prog : Program} {w : World} {A : Around} {E : Value → Shared → Prop}
theorem wpS_hi {st0 st : SortSt} {a b : Array Keyed} {Q : Array Keyed → SortSt → Prop} (so : SOk st0 st) (c : Two a b) (na : 0 < a.size) (nb : 0 < b.size)
    (first : K b 0 ≤ K a 0) (last : K b (b.size - 1) ≤ K a (a.size - 1)) (h : ∀ r st', SOk st0 st' → Fin a.toList b.toList r.toList → Q r st') : wpS (model prog w) A E s (mergeHi' a b) Q st := by
  have ha := c.ia
  have hb := c.ib
  refine wpS_bind (wpS_lift (wpAny_rule (And.intro rfl ?_)))
  refine wpS_bind (wpS_elem' ha (show a.size - 1 < a.size by omega) fun t q e0 => ?_)
  have m0 : AH a b #[] a.size b.size := ⟨List.Pairwise.nil, fun x _ y hy => (by simp at hy), by simp [List.take_of_length_le]⟩
  have m1 : AH a b #[(Value.int (K a (a.size - 1)) t, q)] (a.size - 1) b.size := AH.pushA (out := #[]) m0 c na (Nat.le_refl _) e0 (Nat.le_refl _) fun _ => last
  dsimp only
  by_cases c1 : a.size - 1 = 0
  · rw [if_pos (beq_iff_eq.mpr c1)]
    exact wpS_pure (h _ _ so (m1.done c (.inl c1)))
  rw [if_neg (fun z => c1 (beq_iff_eq.mp z))]
  by_cases c2 : b.size = 1
  · rw [if_pos (beq_iff_eq.mpr c2)]
    exact wpS_pure (h _ _ so (m1.firstB c c2 first))
  rw [if_neg (fun z => c2 (beq_iff_eq.mp z))]
  refine wpS_bind (wpS_get ?_)
  refine wpS_bind (wpS_mono (wpS_forRange (I := fun x c st' => SOk st0 st' ∧ c.1 = none ∧ AH a b c.2.2.2.1 c.2.1 c.2.2.1 ∧ 1 ≤ c.2.1 ∧ c.2.1 ≤ a.size ∧ 2 ≤ c.2.2.1 ∧ c.2.2.1 ≤ b.size ∧ x + (c.2.1 + c.2.2.1) ≤ a.size - 1 + b.size)
    (Q := fun c st' => SOk st0 st' ∧ ∃ r, c.1 = some r ∧ Fin a.toList b.toList r.toList) ?step ?fin ⟨so, rfl, m1, (by show 1 ≤ a.size - 1; omega), (by show a.size - 1 ≤ _; omega), (by show 2 ≤ b.size; omega), Nat.le_refl _, (by show 0 + (a.size - 1 + b.size) ≤ _; omega)⟩) ?post)
  case post =>
    rintro ⟨r, cc⟩ st' ⟨so', r', rfl, F⟩
    exact wpS_pure (h _ _ so' F)
  case fin =>
    rintro ⟨r, i, j, out, mg⟩ st' ⟨so', e, m, hi, hi', hj, hj', hp⟩
    dsimp only at hi hj hp
    omega
  case step =>
    rintro x ⟨r, i, j, out, mg⟩ st' _ hx ⟨so', e, m, hi, hi', hj, hj', hp⟩
    dsimp only at e m hi hi' hj hj' hp ⊢
    subst e
    refine wpS_bind (wpS_mono (wpS_forRange (I := fun _ c st' => SOk st0 st' ∧ c.1 = none ∧ AH a b c.2.2.2.1 c.2.1 c.2.2.1 ∧ 1 ≤ c.2.1 ∧ c.2.1 ≤ a.size ∧ 2 ≤ c.2.2.1 ∧ c.2.2.1 ≤ b.size ∧ x + (c.2.1 + c.2.2.1) ≤ a.size - 1 + b.size)
      (Q := fun c st' => SOk st0 st' ∧ ((∃ r, c.1 = some r ∧ Fin a.toList b.toList r.toList) ∨ (c.1 = none ∧ AH a b c.2.2.2.1 c.2.1 c.2.2.1 ∧ 1 ≤ c.2.1 ∧ c.2.1 ≤ a.size ∧ 2 ≤ c.2.2.1 ∧ c.2.2.1 ≤ b.size ∧ x + (c.2.1 + c.2.2.1) ≤ a.size - 1 + b.size))) ?step1 ?fin1 ⟨so', rfl, m, hi, hi', hj, hj', hp⟩) ?post1)
    case fin1 =>
      rintro cc st' ⟨so', e, m⟩
      exact ⟨so', .inr ⟨e, m⟩⟩
    case step1 =>
      rintro y ⟨r, i, j, out, ac, bc⟩ st' _ _ ⟨so', e, m, hi, hi', hj, hj', hp⟩
      dsimp only at e m hi hi' hj hj' hp ⊢
      subst e
      refine wpS_bind (wpS_elem' hb (by omega) fun t1 q1 e1 => ?_)
      refine wpS_bind (wpS_elem' ha (by omega) fun t2 q2 e2 => ?_)
      refine wpS_bind (wpS_lt so'.1 ?_)
      dsimp only
      by_cases cw : K b (j - 1) < K a (i - 1)
      · rw [if_pos (decide_eq_true cw)]
        refine wpS_bind (wpS_elem' ha (show i - 1 < a.size by omega) fun t3 q3 e3 => ?_)
        have m' := m.pushA c hi hi' e3 hj' fun _ => Int.le_of_lt cw
        by_cases ca : i - 1 = 0
        · rw [if_pos (beq_iff_eq.mpr ca)]
          exact wpS_pure ⟨so', .inl ⟨_, rfl, m'.done c (.inl ca)⟩⟩
        · rw [if_neg (fun z => ca (beq_iff_eq.mp z))]
          split
          · exact wpS_pure ⟨so', .inr ⟨rfl, m', (by show 1 ≤ i - 1; omega), (by show i - 1 ≤ _; omega), hj, hj', (by show x + (i - 1 + j) ≤ _; omega)⟩⟩
          · exact wpS_pure ⟨so', rfl, m', (by show 1 ≤ i - 1; omega), (by show i - 1 ≤ _; omega), hj, hj', (by show x + (i - 1 + j) ≤ _; omega)⟩
      · rw [if_neg (by rw [decide_eq_false cw]; exact Bool.false_ne_true)]
        refine wpS_bind (wpS_elem' hb (show j - 1 < b.size by omega) fun t3 q3 e3 => ?_)
        have m' := m.pushB c (by omega) hj' e3 hi' fun _ => by omega
        by_cases cb : j - 1 = 1
        · rw [if_pos (beq_iff_eq.mpr cb)]
          exact wpS_pure ⟨so', .inl ⟨_, rfl, m'.firstB c cb first⟩⟩
        · rw [if_neg (fun z => cb (beq_iff_eq.mp z))]
          split
          · exact wpS_pure ⟨so', .inr ⟨rfl, m', hi, hi', (by show 2 ≤ j - 1; omega), (by show j - 1 ≤ _; omega), (by show x + (i + (j - 1)) ≤ _; omega)⟩⟩
          · exact wpS_pure ⟨so', rfl, m', hi, hi', (by show 2 ≤ j - 1; omega), (by show j - 1 ≤ _; omega), (by show x + (i + (j - 1)) ≤ _; omega)⟩
    case post1 =>
      rintro ⟨r, i, j, out, ac, bc⟩ st' ⟨so', ⟨r', e, F⟩ | ⟨e, m, hi, hi', hj, hj', hp⟩⟩
      · dsimp only at e ⊢
        subst e
        exact wpS_pure ⟨so', r', rfl, F⟩
      dsimp only at e m hi hi' hj hj' hp ⊢
      subst e
      refine wpS_bind (wpS_lift (wpAny_rule (And.intro rfl ?_)))
      refine wpS_bind (wpS_mono (wpS_forRange (I := fun y c st' => SOk st0 st' ∧ c.1 = none ∧ AH a b c.2.2.2.1 c.2.1 c.2.2.1 ∧ 1 ≤ c.2.1 ∧ c.2.1 ≤ a.size ∧ 2 ≤ c.2.2.1 ∧ c.2.2.1 ≤ b.size ∧ x + min y 1 + (c.2.1 + c.2.2.1) ≤ a.size - 1 + b.size)
        (Q := fun c st' => SOk st0 st' ∧ ((∃ r, c.1 = some r ∧ Fin a.toList b.toList r.toList) ∨ (c.1 = none ∧ AH a b c.2.2.2.1 c.2.1 c.2.2.1 ∧ 1 ≤ c.2.1 ∧ c.2.1 ≤ a.size ∧ 2 ≤ c.2.2.1 ∧ c.2.2.1 ≤ b.size ∧ x + 1 + (c.2.1 + c.2.2.1) ≤ a.size - 1 + b.size))) ?step2 ?fin2 ⟨so', rfl, m, hi, hi', hj, hj', (by show x + min 0 1 + (i + j) ≤ _; omega)⟩) ?post2)
      case fin2 =>
        rintro cc st' ⟨so', e, m, h1, h2, h3, h4, h5⟩
        exact ⟨so', .inr ⟨e, m, h1, h2, h3, h4, by omega⟩⟩
      case post2 =>
        rintro ⟨r, i, j, out, mg2, ac, bc⟩ st' ⟨so', ⟨r', e, F⟩ | ⟨e, m, hi, hi', hj, hj', hp⟩⟩
        · dsimp only at e ⊢
          subst e
          exact wpS_pure ⟨so', r', rfl, F⟩
        dsimp only at e m hi hi' hj hj' hp ⊢
        subst e
        refine wpS_bind (wpS_setMin so' fun st2 so2 => ?_)
        exact wpS_pure ⟨so2, rfl, m, hi, hi', hj, hj', hp⟩
      case step2 =>
        rintro y ⟨r, i, j, out, mg2, ac, bc⟩ st' _ _ ⟨so', e, m, hi, hi', hj, hj', hp⟩
        dsimp only at e m hi hi' hj hj' hp ⊢
        subst e
        by_cases cm : mg2 > 1
        all_goals
          first | rw [if_pos cm] | rw [if_neg cm]
          refine wpS_bind (wpS_setMin so' fun st2 so2 => ?_)
          refine wpS_bind (wpS_elem' hb (show j - 1 < b.size by omega) fun t1 q1 e1 => ?_)
          refine wpS_bind (wpS_right so2.1 ha c.sa (by omega) (by omega) fun k hk1 hk2 hk3 => ?_)
          dsimp only
          by_cases k0 : i - k > 0
          · rw [if_pos k0]
            have m2 := m.runA (i' := k) c (by omega) (fun _ n h1 h2 h3 => Int.le_of_lt (hk3 n (by omega) (by omega))) hj'
            by_cases cd : k = 0
            · rw [if_pos (beq_iff_eq.mpr cd)]
              exact wpS_pure ⟨so2, .inl ⟨_, rfl, m2.done c (.inl cd)⟩⟩
            rw [if_neg (fun z => cd (beq_iff_eq.mp z))]
            refine wpS_bind (wpS_elem' hb (show j - 1 < b.size by omega) fun t2 q2 e2 => ?_)
            have m3 := m2.pushB c (by omega) hj' e2 (by omega) fun _ => hk2 _ (by omega) (by omega)
            by_cases cb : j - 1 = 1
            · rw [if_pos (beq_iff_eq.mpr cb)]
              exact wpS_pure ⟨so2, .inl ⟨_, rfl, m3.firstB c cb first⟩⟩
            rw [if_neg (fun z => cb (beq_iff_eq.mp z))]
            refine wpS_bind (wpS_elem' ha (show k - 1 < a.size by omega) fun t3 q3 e3 => ?_)
            refine wpS_bind (wpS_left so2.1 hb c.sb (by omega) (by omega) fun n hn1 hn2 hn3 => ?_)
            dsimp only
            by_cases n0 : j - 1 - n > 0
            · rw [if_pos n0]
              have m4 := m3.runB (j' := n) c (by omega) (fun _ u h1 h2 h3 => hn3 u (by omega) (by omega)) (by omega)
              by_cases cb1 : n = 1
              · rw [if_pos (beq_iff_eq.mpr cb1)]
                exact wpS_pure ⟨so2, .inl ⟨_, rfl, m4.firstB c cb1 first⟩⟩
              rw [if_neg (fun z => cb1 (beq_iff_eq.mp z))]
              by_cases cb2 : n = 0
              · rw [if_pos (beq_iff_eq.mpr cb2)]
                exact wpS_pure ⟨so2, .inl ⟨_, rfl, m4.done c (.inr cb2)⟩⟩
              · rw [if_neg (fun z => cb2 (beq_iff_eq.mp z))]
                refine wpS_bind (wpS_elem' ha (show k - 1 < a.size by omega) fun tA qA eA => ?_)
                have m5 := m4.pushA c (show 0 < k by omega) (by omega) eA (by omega) fun z => Int.le_of_lt (hn2 _ (by omega) (by omega))
                by_cases cl2 : k - 1 = 0
                · rw [if_pos (beq_iff_eq.mpr cl2)]
                  exact wpS_pure ⟨so2, .inl ⟨_, rfl, m5.done c (.inl cl2)⟩⟩
                rw [if_neg (fun z => cl2 (beq_iff_eq.mp z))]
                split
                · exact wpS_pure ⟨so2, .inr ⟨rfl, m5, (by show 1 ≤ k - 1; omega), (by show k - 1 ≤ _; omega), (by show 2 ≤ n; omega), (by show n ≤ _; omega), (by show x + 1 + (k - 1 + (n)) ≤ _; omega)⟩⟩
                · exact wpS_pure ⟨so2, rfl, m5, (by show 1 ≤ k - 1; omega), (by show k - 1 ≤ _; omega), (by show 2 ≤ n; omega), (by show n ≤ _; omega), (by show x + min (y + 1) 1 + (k - 1 + (n)) ≤ _; omega)⟩
            · rw [if_neg n0]
              have m4 := m3
              obtain rfl : n = j - 1 := by omega
              · refine wpS_bind (wpS_elem' ha (show k - 1 < a.size by omega) fun tA qA eA => ?_)
                have m5 := m4.pushA c (show 0 < k by omega) (by omega) eA (by omega) fun z => Int.le_of_lt (hn2 _ (by omega) (by omega))
                by_cases cl2 : k - 1 = 0
                · rw [if_pos (beq_iff_eq.mpr cl2)]
                  exact wpS_pure ⟨so2, .inl ⟨_, rfl, m5.done c (.inl cl2)⟩⟩
                rw [if_neg (fun z => cl2 (beq_iff_eq.mp z))]
                split
                · exact wpS_pure ⟨so2, .inr ⟨rfl, m5, (by show 1 ≤ k - 1; omega), (by show k - 1 ≤ _; omega), (by show 2 ≤ j - 1; omega), (by show j - 1 ≤ _; omega), (by show x + 1 + (k - 1 + (j - 1)) ≤ _; omega)⟩⟩
                · exact wpS_pure ⟨so2, rfl, m5, (by show 1 ≤ k - 1; omega), (by show k - 1 ≤ _; omega), (by show 2 ≤ j - 1; omega), (by show j - 1 ≤ _; omega), (by show x + min (y + 1) 1 + (k - 1 + (j - 1)) ≤ _; omega)⟩
          · rw [if_neg k0]
            have m2 := m
            obtain rfl : k = i := by omega
            refine wpS_bind (wpS_elem' hb (show j - 1 < b.size by omega) fun t2 q2 e2 => ?_)
            have m3 := m2.pushB c (by omega) hj' e2 (by omega) fun _ => hk2 _ (by omega) (by omega)
            by_cases cb : j - 1 = 1
            · rw [if_pos (beq_iff_eq.mpr cb)]
              exact wpS_pure ⟨so2, .inl ⟨_, rfl, m3.firstB c cb first⟩⟩
            rw [if_neg (fun z => cb (beq_iff_eq.mp z))]
            refine wpS_bind (wpS_elem' ha (show k - 1 < a.size by omega) fun t3 q3 e3 => ?_)
            refine wpS_bind (wpS_left so2.1 hb c.sb (by omega) (by omega) fun n hn1 hn2 hn3 => ?_)
            dsimp only
            by_cases n0 : j - 1 - n > 0
            · rw [if_pos n0]
              have m4 := m3.runB (j' := n) c (by omega) (fun _ u h1 h2 h3 => hn3 u (by omega) (by omega)) (by omega)
              by_cases cb1 : n = 1
              · rw [if_pos (beq_iff_eq.mpr cb1)]
                exact wpS_pure ⟨so2, .inl ⟨_, rfl, m4.firstB c cb1 first⟩⟩
              rw [if_neg (fun z => cb1 (beq_iff_eq.mp z))]
              by_cases cb2 : n = 0
              · rw [if_pos (beq_iff_eq.mpr cb2)]
                exact wpS_pure ⟨so2, .inl ⟨_, rfl, m4.done c (.inr cb2)⟩⟩
              · rw [if_neg (fun z => cb2 (beq_iff_eq.mp z))]
                refine wpS_bind (wpS_elem' ha (show k - 1 < a.size by omega) fun tA qA eA => ?_)
                have m5 := m4.pushA c (show 0 < k by omega) (by omega) eA (by omega) fun z => Int.le_of_lt (hn2 _ (by omega) (by omega))
                by_cases cl2 : k - 1 = 0
                · rw [if_pos (beq_iff_eq.mpr cl2)]
                  exact wpS_pure ⟨so2, .inl ⟨_, rfl, m5.done c (.inl cl2)⟩⟩
                rw [if_neg (fun z => cl2 (beq_iff_eq.mp z))]
                split
                · exact wpS_pure ⟨so2, .inr ⟨rfl, m5, (by show 1 ≤ k - 1; omega), (by show k - 1 ≤ _; omega), (by show 2 ≤ n; omega), (by show n ≤ _; omega), (by show x + 1 + (k - 1 + (n)) ≤ _; omega)⟩⟩
                · exact wpS_pure ⟨so2, rfl, m5, (by show 1 ≤ k - 1; omega), (by show k - 1 ≤ _; omega), (by show 2 ≤ n; omega), (by show n ≤ _; omega), (by show x + min (y + 1) 1 + (k - 1 + (n)) ≤ _; omega)⟩
            · rw [if_neg n0]
              have m4 := m3
              obtain rfl : n = j - 1 := by omega
              · refine wpS_bind (wpS_elem' ha (show k - 1 < a.size by omega) fun tA qA eA => ?_)
                have m5 := m4.pushA c (show 0 < k by omega) (by omega) eA (by omega) fun z => Int.le_of_lt (hn2 _ (by omega) (by omega))
                by_cases cl2 : k - 1 = 0
                · rw [if_pos (beq_iff_eq.mpr cl2)]
                  exact wpS_pure ⟨so2, .inl ⟨_, rfl, m5.done c (.inl cl2)⟩⟩
                rw [if_neg (fun z => cl2 (beq_iff_eq.mp z))]
                split
                · exact wpS_pure ⟨so2, .inr ⟨rfl, m5, (by show 1 ≤ k - 1; omega), (by show k - 1 ≤ _; omega), (by show 2 ≤ j - 1; omega), (by show j - 1 ≤ _; omega), (by show x + 1 + (k - 1 + (j - 1)) ≤ _; omega)⟩⟩
                · exact wpS_pure ⟨so2, rfl, m5, (by show 1 ≤ k - 1; omega), (by show k - 1 ≤ _; omega), (by show 2 ≤ j - 1; omega), (by show j - 1 ≤ _; omega), (by show x + min (y + 1) 1 + (k - 1 + (j - 1)) ≤ _; omega)⟩
end
end Tim
set_option Elab.async false
set_option linter.all false
set_option maxRecDepth 100000
set_option maxHeartbeats 3000000
namespace Tim
open PySem PyProof.Rows
theorem ints_perm {xs ys : Array Keyed} (h : IntKeys xs) (p : ys.Perm xs) : IntKeys ys := fun q hq => h q ((Array.perm_iff_toList_perm.mp p).mem_iff.mp hq)
def Up (xs : Array Keyed) (lo hi : Nat) : Prop := ∀ i j, lo ≤ i → i ≤ j → j < hi → K xs i ≤ K xs j
theorem Up.one (xs : Array Keyed) (lo : Nat) : Up xs lo (lo + 1) := fun i j h1 h2 h3 => by
  obtain rfl : i = j := by omega
  exact Int.le_refl _
theorem Up.more {xs : Array Keyed} {lo hi : Nat} (h : Up xs lo hi) (hl : lo < hi) (e : K xs (hi - 1) ≤ K xs hi) : Up xs lo (hi + 1) := fun i j h1 h2 h3 => by
  by_cases c : j < hi
  · exact h i j h1 h2 c
  · obtain rfl : j = hi := by omega
    by_cases c2 : i = j
    · rw [c2]; exact Int.le_refl _
    · exact Int.le_trans (h i (j - 1) h1 (by omega) (by omega)) e
section
variable {s : Shared} {prog : Program} {w : World} {A : Around} {E : Value → Shared → Prop}
theorem wpS_cmp {st : SortSt} {i j : Nat} {Q : Option Bool → SortSt → Prop} (hk : kindOf st = oneType') (h0 : IntKeys (arrOf st)) (hi : i < (arrOf st).size) (hj : j < (arrOf st).size) (h : Q (some (decide (K (arrOf st) i < K (arrOf st) j))) st) : wpS (model prog w) A E s (ltAt' i j) Q st := by
  obtain ⟨t, p, e1⟩ := at_int h0 hi
  obtain ⟨u, q, e2⟩ := at_int h0 hj
  exact wpS_ltAt hk e1 e2 h
theorem wpS_run {st : SortSt} {lo nrem : Nat} {Q : Option Nat → SortSt → Prop} (hk : kindOf st = oneType') (hi : IntKeys (arrOf st)) (hn : lo + nrem ≤ (arrOf st).size) (h1 : 1 ≤ nrem) (hd : ∀ i j, i < j → j < (arrOf st).size → K (arrOf st) i ≠ K (arrOf st) j)
    (h : ∀ m arr', 1 ≤ m → m ≤ nrem → arr'.Perm (arrOf st) → (∀ k, k < lo → arr'[k]? = (arrOf st)[k]?) → Up arr' lo (lo + m) → Q (some m) (setArr st arr')) : wpS (model prog w) A E s (countRun' lo nrem) Q st := by
  have here : ∀ m, 1 ≤ m → m ≤ nrem → Up (arrOf st) lo (lo + m) → Q (some m) st := fun m a b u => h m (arrOf st) a b (Array.Perm.refl _) (fun _ _ => rfl) u
  rw [countRun'_eq]
  refine wpS_bind (wpS_mono (wpS_forRange (I := fun x c st' => st = st' ∧ c = (none, x) ∧ Up (arrOf st) lo (lo + x))
    (Q := fun c st' => st = st' ∧ ∃ n, c = (none, n) ∧ 1 ≤ n ∧ n ≤ nrem ∧ Up (arrOf st) lo (lo + n) ∧ (n = nrem ∨ K (arrOf st) (lo + n) < K (arrOf st) (lo + n - 1))) ?step ?fin ⟨rfl, rfl, Up.one _ _⟩) ?post)
  case fin =>
    rintro c st' ⟨rfl, rfl, u⟩
    rw [show max 1 nrem = nrem by omega] at u ⊢
    exact ⟨rfl, nrem, rfl, h1, Nat.le_refl _, u, .inl rfl⟩
  case step =>
    rintro x c st' hx1 hx ⟨rfl, rfl, u⟩
    dsimp only
    refine wpS_bind (wpS_cmp hk hi (by omega) (by omega) ?_)
    dsimp only
    by_cases c : K (arrOf st) (lo + x) < K (arrOf st) (lo + x - 1)
    · rw [if_pos (decide_eq_true c)]
      exact wpS_pure ⟨rfl, x, rfl, hx1, by omega, u, .inr c⟩
    · rw [if_neg (by rw [decide_eq_false c]; exact Bool.false_ne_true)]
      exact wpS_pure ⟨rfl, rfl, u.more (by omega) (by omega)⟩
  case post =>
    rintro c st' ⟨rfl, n, rfl, n1, n2, u, hor⟩
    dsimp only
    by_cases c1 : n = nrem
    · rw [if_pos (beq_iff_eq.mpr c1)]
      exact wpS_pure (here n n1 n2 u)
    rw [if_neg (fun z => c1 (beq_iff_eq.mp z))]
    have lt := hor.resolve_left c1
    by_cases c2 : n > 1
    · rw [if_pos c2]
      refine wpS_bind (wpS_cmp hk hi (by omega) (by omega) ?_)
      dsimp only
      have a := u lo (lo + n - 1) (Nat.le_refl _) (by omega) (by omega)
      have b := hd lo (lo + n - 1) (by omega) (by omega)
      rw [if_pos (decide_eq_true (by omega))]
      exact wpS_pure (here n n1 n2 u)
    rw [if_neg c2]
    obtain rfl : n = 1 := by omega
    refine wpS_bind (wpS_lift (wpAny_rule (And.intro rfl ?_)))
    refine wpS_bind (wpS_mono (wpS_forRange (I := fun x c st' => st = st' ∧ c = (none, x, 0) ∧ 2 ≤ x ∧ ∀ i j, lo ≤ i → i < j → j < lo + x → K (arrOf st) j < K (arrOf st) i)
      (Q := fun c st' => st = st' ∧ ∃ n, c = (none, n, 0) ∧ 2 ≤ n ∧ n ≤ nrem ∧ ∀ i j, lo ≤ i → i < j → j < lo + n → K (arrOf st) j < K (arrOf st) i) ?step2 ?fin2 ⟨rfl, rfl, Nat.le_refl _, fun i j g1 g2 g3 => ?first⟩) ?post2)
    case first =>
      obtain rfl : i = lo := by omega
      obtain rfl : j = i + 1 := by omega
      exact lt
    case fin2 =>
      rintro c st' ⟨rfl, rfl, g1, g2⟩
      rw [show max (1 + 1) nrem = nrem by omega] at g1 g2 ⊢
      exact ⟨rfl, nrem, rfl, g1, Nat.le_refl _, g2⟩
    case step2 =>
      rintro x c st' hx1 hx ⟨rfl, rfl, g1, g2⟩
      dsimp only
      refine wpS_bind (wpS_cmp hk hi (by omega) (by omega) ?_)
      dsimp only
      by_cases c : K (arrOf st) (lo + x) < K (arrOf st) (lo + x - 1)
      · rw [if_pos (decide_eq_true c), if_neg (by decide)]
        refine wpS_pure ⟨rfl, rfl, by omega, fun i j h1 h2 h3 => ?_⟩
        by_cases c3 : j < lo + x
        · exact g2 i j h1 h2 c3
        · obtain rfl : j = lo + x := by omega
          by_cases c4 : i = lo + x - 1
          · rw [c4]; exact c
          · exact Int.lt_trans c (g2 i (lo + x - 1) h1 (by omega) (by omega))
      · rw [if_neg (by rw [decide_eq_false c]; exact Bool.false_ne_true)]
        refine wpS_bind (wpS_cmp hk hi (by omega) (by omega) ?_)
        dsimp only
        have b := hd (lo + x - 1) (lo + x) (by omega) (by omega)
        rw [if_pos (decide_eq_true (by omega))]
        exact wpS_pure ⟨rfl, x, rfl, g1, by omega, g2⟩
    case post2 =>
      rintro c st' ⟨rfl, n, rfl, m1, m2, g2⟩
      dsimp only
      rw [if_neg (by decide)]
      rw [reverseSlice'_eq]
      refine wpS_bind (wpS_modify ?_)
      have hsz : lo + n ≤ (arrOf st).size := by omega
      have gm := fun k => getElem?_mirror_all (i := lo) hsz k
      have pm := mirror_perm (arrOf st) lo (lo + n) ((lo + n - lo) / 2)
      generalize mirror (arrOf st) lo (lo + n) ((lo + n - lo) / 2) = arr at gm pm
      have kz : ∀ k, K arr k = if lo ≤ k ∧ k < lo + n then K (arrOf st) (lo + (lo + n) - 1 - k) else K (arrOf st) k := fun k => by
        have := gm k
        split at this
        · rename_i c; rw [if_pos c]; exact K_congr this
        · rename_i c; rw [if_neg c]; exact K_congr this
      have ups : Up arr lo (lo + n) := fun i j h1 h2 h3 => by
        rw [kz, kz, if_pos ⟨h1, by omega⟩, if_pos ⟨by omega, h3⟩]
        by_cases c : i = j
        · rw [c]; exact Int.le_refl _
        · exact Int.le_of_lt (g2 _ _ (by omega) (by omega) (by omega))
      have hia := ints_perm hi pm
      have sza := pm.size_eq
      have low : ∀ k, k < lo → arr[k]? = (arrOf st)[k]? := fun k hk' => by
        rw [gm k, if_neg (by omega)]
      refine wpS_bind (wpS_mono (wpS_forRange (I := fun x c st' => setArr st arr = st' ∧ c = (none, x) ∧ Up arr lo (lo + x))
        (Q := fun c st' => setArr st arr = st' ∧ ∃ n, c = (none, n) ∧ 1 ≤ n ∧ n ≤ nrem ∧ Up arr lo (lo + n)) ?step3 ?fin3 ⟨rfl, rfl, ups⟩) ?post3)
      case fin3 =>
        rintro c st' ⟨rfl, rfl, u⟩
        rw [show max n nrem = nrem by omega] at u ⊢
        exact ⟨rfl, nrem, rfl, h1, Nat.le_refl _, u⟩
      case step3 =>
        rintro x c st' hx1 hx ⟨rfl, rfl, u⟩
        dsimp only
        refine wpS_bind (wpS_cmp (st := setArr st arr) hk hia (by show _ < arr.size; omega) (by show _ < arr.size; omega) ?_)
        dsimp only
        by_cases c : K arr (lo + x) < K arr (lo + x - 1)
        · rw [if_pos (decide_eq_true c)]
          exact wpS_pure ⟨rfl, x, rfl, by omega, by omega, u⟩
        · rw [if_neg (fun z => c (of_decide_eq_true z))]
          exact wpS_pure ⟨rfl, rfl, u.more (by omega) (by omega)⟩
      case post3 =>
        rintro c st' ⟨rfl, m, rfl, k1, k2, u⟩
        exact wpS_pure (h m arr k1 k2 pm low u)
theorem wpS_ins {st : SortSt} {lo n ok : Nat} {Q : Bool → SortSt → Prop} (hk : kindOf st = oneType') (hi : IntKeys (arrOf st)) (hn : lo + n ≤ (arrOf st).size) (h1 : 1 ≤ ok) (h2 : ok ≤ n) (hs : Up (arrOf st) lo (lo + ok))
    (h : ∀ arr', arr'.Perm (arrOf st) → (∀ k, k < lo → arr'[k]? = (arrOf st)[k]?) → Up arr' lo (lo + n) → Q true (setArr st arr')) : wpS (model prog w) A E s (binarySort' lo n ok) Q st := by
  rw [binarySort'_eq]
  refine wpS_bind (wpS_mono (wpS_forRange (I := fun x c st' => c = (none, ()) ∧ ∃ arr, setArr st arr = st' ∧ arr.Perm (arrOf st) ∧ (∀ k, k < lo → arr[k]? = (arrOf st)[k]?) ∧ Up arr lo (lo + min x n))
    (Q := fun c st' => c = (none, ()) ∧ ∃ arr, setArr st arr = st' ∧ arr.Perm (arrOf st) ∧ (∀ k, k < lo → arr[k]? = (arrOf st)[k]?) ∧ Up arr lo (lo + n)) ?step ?fin ⟨rfl, arrOf st, rfl, Array.Perm.refl _, fun _ _ => rfl, ?init⟩) ?post)
  case init =>
    rw [show min (max ok 1) n = ok by omega]
    exact hs
  case fin =>
    rintro c st' ⟨rfl, arr, rfl, p, low, u⟩
    rw [show min (max (max ok 1) n) n = n by omega] at u
    exact ⟨rfl, arr, rfl, p, low, u⟩
  case post =>
    rintro c st' ⟨rfl, arr, rfl, p, low, u⟩
    exact wpS_pure (h arr p low u)
  case step =>
    rintro x c st' hx1 hx ⟨rfl, arr, rfl, p, low, u⟩
    rw [show min x n = x by omega] at u
    dsimp only
    have hia := ints_perm hi p
    have sz := p.size_eq
    refine wpS_bind (wpS_mono (wpS_forRange (I := fun y c st'' => setArr st arr = st'' ∧ ∃ l r, c = (none, l, r) ∧ l ≤ r ∧ r ≤ x ∧ r - l ≤ x - y ∧ (∀ i, i < l → K arr (lo + i) ≤ K arr (lo + x)) ∧ (∀ i, r ≤ i → i < x → K arr (lo + x) < K arr (lo + i)))
      (Q := fun c st'' => setArr st arr = st'' ∧ ∃ l, c = (none, l, l) ∧ l ≤ x ∧ (∀ i, i < l → K arr (lo + i) ≤ K arr (lo + x)) ∧ (∀ i, l ≤ i → i < x → K arr (lo + x) < K arr (lo + i))) ?istep ?ifin ⟨rfl, 0, x, rfl, by omega, by omega, by omega, fun i hi => by omega, fun i a b => by omega⟩) ?ipost)
    case ifin =>
      rintro c st'' ⟨rfl, l, r, rfl, g1, g2, g3, g4, g5⟩
      obtain rfl : l = r := by omega
      exact ⟨rfl, l, rfl, g2, g4, g5⟩
    case istep =>
      rintro y c st'' _ hy ⟨rfl, l, r, rfl, g1, g2, g3, g4, g5⟩
      dsimp only
      by_cases c1 : l ≥ r
      · rw [if_pos c1]
        obtain rfl : l = r := by omega
        exact wpS_pure ⟨rfl, l, rfl, g2, g4, g5⟩
      · rw [if_neg c1]
        refine wpS_bind (wpS_cmp (st := setArr st arr) hk hia (by show _ < arr.size; omega) (by show _ < arr.size; omega) ?_)
        dsimp only
        by_cases c : K arr (lo + x) < K arr (lo + (l + r) / 2)
        · rw [if_pos (decide_eq_true c)]
          refine wpS_pure ⟨rfl, _, _, rfl, by omega, by omega, by omega, g4, fun i a b => ?_⟩
          exact Int.lt_of_lt_of_le c (u _ _ (by omega) (by omega) (by omega))
        · rw [if_neg (fun z => c (of_decide_eq_true z))]
          refine wpS_pure ⟨rfl, _, _, rfl, by omega, by omega, by omega, fun i a => ?_, g5⟩
          exact Int.le_trans (u (lo + i) (lo + (l + r) / 2) (by omega) (by omega) (by omega)) (Int.not_lt.mp c)
    case ipost =>
      rintro c st'' ⟨rfl, l, rfl, g2, g4, g5⟩
      dsimp only
      rw [moveDown'_eq]
      refine wpS_bind (wpS_modify (wpS_pure ⟨rfl, bubble arr (lo + x) (lo + x - (lo + l)), rfl, (bubble_perm _ _ _).trans p, fun k hk' => ?_, ?_⟩))
      · have := getElem?_bubble (xs := arr) (src := lo + x) (by omega) (lo + x - (lo + l)) (by omega) k
        rw [this, if_neg (by omega), if_neg (by omega)]
        exact low k hk'
      · rw [show min (x + 1) n = x + 1 by omega]
        intro i j a1 a2 a3
        rw [K_bubble (by omega) (by omega), K_bubble (by omega) (by omega), show lo + x - (lo + x - (lo + l)) = lo + l by omega]
        have s1 : ∀ m, lo ≤ m → m < lo + l → K arr m ≤ K arr (lo + x) := fun m b1 b2 => by
          have := g4 (m - lo) (by omega)
          rwa [show lo + (m - lo) = m by omega] at this
        have s2 : ∀ m, lo + l ≤ m → m < lo + x → K arr (lo + x) < K arr m := fun m b1 b2 => by
          have := g5 (m - lo) (by omega) (by omega)
          rwa [show lo + (m - lo) = m by omega] at this
        repeat' split
        all_goals first
          | (exfalso; omega)
          | exact Int.le_refl _
          | exact s1 _ (by omega) (by omega)
          | exact Int.le_of_lt (s2 _ (by omega) (by omega))
          | exact u _ _ (by omega) (by omega) (by omega)
end
end Tim
set_option Elab.async false
set_option linter.all false
set_option maxRecDepth 100000
set_option maxHeartbeats 3000000
namespace Tim
open PySem PyProof.Rows
section
variable {s : Shared} {prog : Program} {w : World} {A : Around} {E : Value → Shared → Prop}
theorem put_back {sa : Nat} : ∀ (l : List Keyed) (n : Nat) (arr : Array Keyed), sa + n + l.length ≤ arr.size → ((l.zipIdx n).foldl (fun a (p : Keyed × Nat) => a.setIfInBounds (sa + p.2) p.1) arr).toList = arr.toList.take (sa + n) ++ l ++ arr.toList.drop (sa + n + l.length)
  | [], n, arr, _ => by simp
  | x :: l, n, arr, h => by
    rw [List.length_cons] at h
    rw [List.zipIdx_cons, List.foldl_cons]
    have ih := put_back (sa := sa) l (n + 1) (arr.setIfInBounds (sa + n) x) (by rw [Array.size_setIfInBounds]; omega)
    rw [ih, Array.toList_setIfInBounds]
    have hl : sa + n < arr.toList.length := by rw [Array.length_toList]; omega
    rw [List.length_cons, show sa + (n + 1) = sa + n + 1 by omega]
    rw [List.take_succ_eq_append_getElem (by rw [List.length_set]; exact hl), List.getElem_set_self, List.take_set_of_le (Nat.le_refl _), List.drop_set_of_lt (by omega)]
    rw [show sa + n + (l.length + 1) = sa + n + 1 + l.length by omega]
    simp only [List.append_assoc, List.singleton_append, List.cons_append, List.nil_append]
theorem up_of {xs : Array Keyed} (h : xs.toList.Pairwise Le) : SortedTo xs xs.size := fun i j hij hj => by
  by_cases c : i = j
  · rw [c]; exact Int.le_refl _
  · have := List.pairwise_iff_getElem.mp h i j (by rw [Array.length_toList]; omega) (by rw [Array.length_toList]; omega) (by omega)
    rw [K_at (by omega), K_at hj]
    exact this
theorem K_ext {a : Array Keyed} {i k m : Nat} (h : m < k) (hk : i + m < a.size) : K (a.extract i (i + k)) m = K a (i + m) := by
  refine K_congr ?_
  rw [Array.getElem?_extract]
  rw [if_pos (by omega)]
theorem two_ext {a : Array Keyed} {i k j n : Nat} (h0 : IntKeys a) (hk : i + k ≤ a.size) (hn : j + n ≤ a.size) (u1 : Up a i (i + k)) (u2 : Up a j (j + n)) : Two (a.extract i (i + k)) (a.extract j (j + n)) := by
  have ik : ∀ b c : Nat, IntKeys (a.extract b c) := fun b c p hp => by
    rw [Array.toList_extract] at hp
    exact h0 p (List.mem_of_mem_drop (List.mem_of_mem_take (by simpa [List.extract] using hp)))
  refine ⟨ik _ _, ik _ _, fun x y h1 h2 => ?_, fun x y h1 h2 => ?_⟩
  · rw [Array.size_extract] at h2
    rw [K_ext (by omega) (by omega), K_ext (by omega) (by omega)]
    exact u1 _ _ (by omega) (by omega) (by omega)
  · rw [Array.size_extract] at h2
    rw [K_ext (by omega) (by omega), K_ext (by omega) (by omega)]
    exact u2 _ _ (by omega) (by omega) (by omega)
theorem wpS_put {σ : Type} {M : Model} {st st' : σ} {Q : PUnit → σ → Prop} (h : Q ⟨⟩ st') : wpS M A E s (set st' : StateT σ Sem PUnit) Q st := by
  unfold wpS
  rw [StateT.run_set]
  exact wpAny_pure (And.intro rfl h)
theorem wpS_rightU {st : SortSt} {kv : Int} {t0 : Tok} {q0 : Value} {xs : Array Keyed} {base n hint : Nat} {Q : Option Nat → SortSt → Prop} (hk : kindOf st = oneType') (h0 : IntKeys xs) (sx : Up xs base (base + n)) (hb : base + n ≤ xs.size) (hh : hint < n)
    (h : ∀ c, c ≤ n → (∀ m, base ≤ m → m < base + c → K xs m ≤ kv) → (∀ m, base + c ≤ m → m < base + n → kv < K xs m) → Q (some c) st) : wpS (model prog w) A E s (gallop' false (.int kv t0, q0) xs base n hint) Q st :=
  wpS_gallop hk h0 hb hh (fun i j hij hj => sx _ _ (by omega) (by omega) (by omega)) fun c hc h1 h2 => h c hc (fun m m1 m2 => by
    have := Pb_f.1.mp (h1 (m - base) (by omega))
    rwa [show base + (m - base) = m by omega] at this) fun m m1 m2 => by
    have := Pb_f.2.mp (h2 (m - base) (by omega) (by omega))
    rwa [show base + (m - base) = m by omega] at this
theorem wpS_leftU {st : SortSt} {kv : Int} {t0 : Tok} {q0 : Value} {xs : Array Keyed} {base n hint : Nat} {Q : Option Nat → SortSt → Prop} (hk : kindOf st = oneType') (h0 : IntKeys xs) (sx : Up xs base (base + n)) (hb : base + n ≤ xs.size) (hh : hint < n)
    (h : ∀ c, c ≤ n → (∀ m, base ≤ m → m < base + c → K xs m < kv) → (∀ m, base + c ≤ m → m < base + n → kv ≤ K xs m) → Q (some c) st) : wpS (model prog w) A E s (gallop' true (.int kv t0, q0) xs base n hint) Q st :=
  wpS_gallop hk h0 hb hh (fun i j hij hj => sx _ _ (by omega) (by omega) (by omega)) fun c hc h1 h2 => h c hc (fun m m1 m2 => by
    have := Pb_t.1.mp (h1 (m - base) (by omega))
    rwa [show base + (m - base) = m by omega] at this) fun m m1 m2 => by
    have := Pb_t.2.mp (h2 (m - base) (by omega) (by omega))
    rwa [show base + (m - base) = m by omega] at this
theorem three {arr arr' : Array Keyed} {n1 n2 k m : Nat} {r : List Keyed} (hk : k ≤ n1) (hm : m ≤ n2) (hn : n1 + n2 = arr.size) (u1 : Up arr 0 n1) (u2 : Up arr n1 (n1 + n2)) (hk0 : k < n1) (hm0 : 0 < m)
    (lo : ∀ i, i < k → K arr i ≤ K arr n1) (hi : ∀ i, n1 + m ≤ i → i < n1 + n2 → K arr (n1 - 1) ≤ K arr i)
    (F : Fin (arr.extract k n1).toList (arr.extract n1 (n1 + m)).toList r) (e : arr'.toList = arr.toList.take k ++ r ++ arr.toList.drop (k + r.length)) : arr'.Perm arr ∧ SortedTo arr' arr.size := by
  have lr : r.length = n1 - k + m := by
    have := F.2.length_eq
    simp only [List.length_append, Array.length_toList, Array.size_extract] at this
    omega
  have ed : k + r.length = n1 + m := by omega
  rw [ed] at e
  have pm : arr'.Perm arr := by
    refine Array.perm_iff_toList_perm.mpr ?_
    rw [e]
    have e1 : arr.toList = arr.toList.take k ++ ((arr.extract k n1).toList ++ (arr.extract n1 (n1 + m)).toList) ++ arr.toList.drop (n1 + m) := by
      have a1 : arr.extract k n1 = arr.extract k (k + (n1 - k)) := by rw [show k + (n1 - k) = n1 by omega]
      rw [a1, toList_cut, toList_cut]
      have b1 := drop_cut arr.toList n1 m
      have b2 := drop_cut arr.toList k (n1 - k)
      rw [show k + (n1 - k) = n1 by omega] at b2
      rw [List.append_assoc, List.append_assoc, ← b1, ← b2, List.take_append_drop]
    refine List.Perm.trans ?_ (List.Perm.of_eq e1.symm)
    exact List.Perm.append_right _ (List.Perm.append_left _ F.2)
  refine ⟨pm, ?_⟩
  have pw : arr'.toList.Pairwise Le := by
    rw [e]
    have inr : ∀ x ∈ r, ∃ i, k ≤ i ∧ i < n1 + m ∧ i < arr.size ∧ numOf x.1 = K arr i := fun x hx => by
      rcases List.mem_append.mp (F.2.mem_iff.mp hx) with z | z
      · rw [toList_mid] at z
        obtain ⟨i, a, b, c, d⟩ := mem_mid_K z
        exact ⟨i, a, by omega, c, d⟩
      · rw [toList_mid] at z
        obtain ⟨i, a, b, c, d⟩ := mem_mid_K z
        exact ⟨i, by omega, b, c, d⟩
    refine List.pairwise_append.mpr ⟨List.pairwise_append.mpr ⟨?_, F.1, fun x hx y hy => ?_⟩, ?_, fun x hx y hy => ?_⟩
    · refine List.pairwise_iff_getElem.mpr fun i j h1 h2 hij => ?_
      rw [List.length_take, Array.length_toList] at h1 h2
      rw [List.getElem_take, List.getElem_take]
      have := u1 i j (Nat.zero_le _) (by omega) (by omega)
      rw [K_at (show i < arr.size by omega), K_at (show j < arr.size by omega)] at this
      exact this
    · obtain ⟨i, a, b, c⟩ := mem_take_K hx
      obtain ⟨j, d, f, g, l⟩ := inr y hy
      unfold Le
      rw [c, l]
      by_cases q : j < n1
      · exact u1 i j (Nat.zero_le _) (by omega) q
      · exact Int.le_trans (lo i a) (u2 n1 j (Nat.le_refl _) (by omega) (by omega))
    · refine List.pairwise_iff_getElem.mpr fun i j h1 h2 hij => ?_
      rw [List.length_drop, Array.length_toList] at h1 h2
      rw [List.getElem_drop, List.getElem_drop]
      have := u2 (n1 + m + i) (n1 + m + j) (by omega) (by omega) (by omega)
      rw [K_at (show n1 + m + i < arr.size by omega), K_at (show n1 + m + j < arr.size by omega)] at this
      exact this
    · obtain ⟨j, d, f, g⟩ := mem_drop_K hy
      unfold Le
      rw [g]
      rcases List.mem_append.mp hx with z | z
      · obtain ⟨i, a, b, c⟩ := mem_take_K z
        rw [c]
        exact Int.le_trans (lo i a) (u2 n1 j (Nat.le_refl _) (by omega) (by omega))
      · obtain ⟨i, a, b, c, l⟩ := inr x z
        rw [l]
        by_cases q : i < n1
        · exact Int.le_trans (u1 i (n1 - 1) (Nat.zero_le _) (by omega) (by omega)) (hi j d (by omega))
        · exact u2 i j (by omega) (by omega) (by omega)
  have := up_of pw
  rwa [pm.size_eq] at this
theorem wpS_at {st : SortSt} {n1 n2 p1 p2 : Nat} {Q : Bool → SortSt → Prop} (hk : kindOf st = oneType') (hf : failedOf st = none) (hp : pendingOf st = #[(0, n1, p1), (n1, n2, p2)]) (h0 : IntKeys (arrOf st)) (hn : n1 + n2 = (arrOf st).size) (hn1 : 0 < n1) (hn2 : 0 < n2) (u1 : Up (arrOf st) 0 n1) (u2 : Up (arrOf st) n1 (n1 + n2))
    (h : ∀ st', (arrOf st').Perm (arrOf st) → failedOf st' = none → pendingOf st' = #[(0, n1 + n2, p1)] → SortedTo (arrOf st') (arrOf st).size → Q true st') : wpS (model prog w) A E s (mergeAt' 0) Q st := by
  obtain ⟨kd, arr, pd, mg, fl⟩ := st
  have hp : pd = _ := hp
  have hf : fl = none := hf
  have hk : kd = oneType' := hk
  have h0 : IntKeys arr := h0
  have hn : n1 + n2 = arr.size := hn
  have u1 : Up arr 0 n1 := u1
  have u2 : Up arr n1 (n1 + n2) := u2
  subst hp
  subst hf
  subst hk
  refine wpS_bind (wpS_get ?_)
  dsimp only
  rw [show (#[(0, n1, p1), (n1, n2, p2)] : Array (Nat × Nat × Nat))[0]? = some (0, n1, p1) from rfl, show (#[(0, n1, p1), (n1, n2, p2)] : Array (Nat × Nat × Nat))[0 + 1]? = some (n1, n2, p2) from rfl]
  dsimp only
  rw [show (#[(0, n1, p1), (n1, n2, p2)] : Array (Nat × Nat × Nat)).setIfInBounds 0 (0, n1 + n2, p1) = #[(0, n1 + n2, p1), (n1, n2, p2)] from rfl, show (#[(0, n1 + n2, p1), (n1, n2, p2)] : Array (Nat × Nat × Nat)).eraseIdxIfInBounds (0 + 1) = #[(0, n1 + n2, p1)] by
    apply Array.ext'
    simp [Array.eraseIdxIfInBounds]]
  refine wpS_bind (wpS_put ?_)
  have so : SOk (SortSt.mk' oneType' arr #[(0, n1 + n2, p1)] mg none) (SortSt.mk' oneType' arr #[(0, n1 + n2, p1)] mg none) := ⟨rfl, rfl, rfl, rfl⟩
  have fin : ∀ st' : SortSt, SOk (SortSt.mk' oneType' arr #[(0, n1 + n2, p1)] mg none) st' → SortedTo arr arr.size → Q true st' := fun st' so' hs => by
    have ea : arrOf st' = arr := so'.2.1
    refine h st' (by rw [ea]; first | done | exact Array.Perm.refl _) so'.2.2.2 so'.2.2.1 ?_
    rw [ea]
    exact hs
  refine wpS_bind (wpS_elem' h0 (show n1 < arr.size by omega) fun t1 q1 e1 => ?_)
  refine wpS_bind (wpS_rightU so.1 h0 (by rw [Nat.zero_add]; exact u1) (by omega) hn1 fun k hk1 hk2 hk3 => ?_)
  dsimp only
  by_cases ck : n1 - k = 0
  · rw [if_pos (beq_iff_eq.mpr ck)]
    refine wpS_pure (fin _ so fun i j hij hj => ?_)
    by_cases c1 : j < n1
    · exact u1 i j (Nat.zero_le _) hij c1
    · by_cases c2 : i < n1
      · exact Int.le_trans (hk2 i (Nat.zero_le _) (by omega)) (u2 n1 j (Nat.le_refl _) (by omega) (by omega))
      · exact u2 i j (by omega) hij (by omega)
  rw [if_neg (fun z => ck (beq_iff_eq.mp z))]
  have ek : 0 + k + (n1 - k) - 1 = n1 - 1 := by omega
  rw [ek]
  refine wpS_bind (wpS_elem' h0 (show n1 - 1 < arr.size by omega) fun t2 q2 e2 => ?_)
  refine wpS_bind (wpS_leftU so.1 h0 u2 (by omega) (by omega) fun m hm1 hm2 hm3 => ?_)
  dsimp only
  by_cases cm : m = 0
  · rw [if_pos (beq_iff_eq.mpr cm)]
    refine wpS_pure (fin _ so fun i j hij hj => ?_)
    by_cases c1 : j < n1
    · exact u1 i j (Nat.zero_le _) hij c1
    · by_cases c2 : i < n1
      · exact Int.le_trans (u1 i (n1 - 1) (Nat.zero_le _) (by omega) (by omega)) (hm3 j (by omega) (by omega))
      · exact u2 i j (by omega) hij (by omega)
  rw [if_neg (fun z => cm (beq_iff_eq.mp z)), Nat.zero_add]
  have ex : arr.extract k n1 = arr.extract k (k + (n1 - k)) := by rw [show k + (n1 - k) = n1 by omega]
  have two : Two (arr.extract k n1) (arr.extract n1 (n1 + m)) := by
    rw [ex]
    exact two_ext h0 (by omega) (by omega) (fun i j a b c => u1 i j (by omega) b (by omega)) (fun i j a b c => u2 i j a b (by omega))
  have sx : (arr.extract k n1).size = n1 - k := by rw [Array.size_extract]; omega
  have sy : (arr.extract n1 (n1 + m)).size = m := by rw [Array.size_extract]; omega
  have kx : ∀ i, i < n1 - k → K (arr.extract k n1) i = K arr (k + i) := fun i hi => by
    rw [ex]
    exact K_ext hi (by omega)
  have ky : ∀ i, i < m → K (arr.extract n1 (n1 + m)) i = K arr (n1 + i) := fun i hi => K_ext hi (by omega)
  have first : K (arr.extract n1 (n1 + m)) 0 ≤ K (arr.extract k n1) 0 := by
    rw [kx 0 (by omega), ky 0 (by omega)]
    exact Int.le_of_lt (hk3 k (by omega) (by omega))
  have last : ∀ j, j < m → K (arr.extract n1 (n1 + m)) j ≤ K (arr.extract k n1) (n1 - k - 1) := fun j hj => by
    rw [kx _ (by omega), ky j hj, show k + (n1 - k - 1) = n1 - 1 by omega]
    exact Int.le_of_lt (hm2 (n1 + j) (by omega) (by omega))
  have close : ∀ (r : Array Keyed) (st' : SortSt), SOk (SortSt.mk' oneType' arr #[(0, n1 + n2, p1)] mg none) st' → Fin (arr.extract k n1).toList (arr.extract n1 (n1 + m)).toList r.toList →
      (failedOf st').isNone = true ∧ Q true (setArr st' (r.toList.zipIdx.foldl (fun a (p : Keyed × Nat) => a.setIfInBounds (k + p.2) p.1) (arrOf st'))) := fun r st' so' F => by
    have ea : arrOf st' = arr := so'.2.1
    refine ⟨by rw [so'.2.2.2]; rfl, ?_⟩
    rw [ea]
    have lr : r.toList.length = n1 - k + m := by
      have := F.2.length_eq
      simp only [List.length_append, Array.length_toList] at this ⊢
      rw [sx, sy] at this
      exact this
    have pb := put_back (sa := k) r.toList 0 arr (by omega)
    rw [Nat.add_zero] at pb
    obtain ⟨pm, so2⟩ := three (by omega) hm1 hn u1 u2 (by omega) (by omega) (fun i hi => hk2 i (Nat.zero_le _) (by omega)) (fun i a b => hm3 i a b) F pb
    exact h _ pm so'.2.2.2 so'.2.2.1 so2
  by_cases cs : n1 - k ≤ m
  · rw [if_pos cs]
    refine wpS_bind (wpS_lo so two (by omega) (by omega) first (by rw [sx, sy]; exact last) fun r st' so' F => ?_)
    obtain ⟨f1, f2⟩ := close r st' so' F
    refine wpS_bind (wpS_modify ?_)
    refine wpS_bind (wpS_get ?_)
    refine wpS_pure ?_
    show Q (failedOf st').isNone _
    rw [f1]
    exact f2
  · rw [if_neg cs]
    refine wpS_bind (wpS_hi so two (by omega) (by omega) first (by rw [sx, sy]; exact last (m - 1) (by omega)) fun r st' so' F => ?_)
    obtain ⟨f1, f2⟩ := close r st' so' F
    refine wpS_bind (wpS_modify ?_)
    refine wpS_bind (wpS_get ?_)
    refine wpS_pure ?_
    show Q (failedOf st').isNone _
    rw [f1]
    exact f2
end
end Tim
set_option Elab.async false
set_option linter.all false
set_option maxRecDepth 100000
set_option maxHeartbeats 3000000
namespace Tim
open PySem PyProof.Rows
def Dis (xs : Array Keyed) : Prop := (xs.toList.map fun p => numOf p.1).Nodup
theorem Dis.perm {xs ys : Array Keyed} (h : Dis xs) (p : ys.Perm xs) : Dis ys := ((Array.perm_iff_toList_perm.mp p).map _).nodup_iff.mpr h
theorem Dis.ne {xs : Array Keyed} (h : Dis xs) (i j : Nat) (hij : i < j) (hj : j < xs.size) : K xs i ≠ K xs j := fun e => by
  rw [K_at (by omega), K_at hj] at e
  have li : i < (xs.toList.map fun p => numOf p.1).length := by rw [List.length_map, Array.length_toList]; omega
  have lj : j < (xs.toList.map fun p => numOf p.1).length := by rw [List.length_map, Array.length_toList]; omega
  have := (List.getElem?_inj (l := xs.toList.map fun p => numOf p.1) li (show (xs.toList.map fun p => numOf p.1).Nodup from h) (j := j)).mp (by
    rw [List.getElem?_eq_getElem li, List.getElem?_eq_getElem lj, List.getElem_map, List.getElem_map]
    exact congrArg some e)
  omega
section
variable {s : Shared} {prog : Program} {w : World} {A : Around} {E : Value → Shared → Prop} {a₀ : Array Keyed}
structure SAt (a₀ : Array Keyed) (pd : Array (Nat × Nat × Nat)) (st : SortSt) : Prop where
  perm : (arrOf st).Perm a₀
  kind : kindOf st = oneType'
  failed : failedOf st = none
  pend : pendingOf st = pd
theorem min64 : minRun' 64 64 0 = 32 := rfl
def EndS (a₀ : Array Keyed) (st : SortSt) : Prop := (SAt a₀ #[(0, 64, 0)] st ∧ Up (arrOf st) 0 64) ∨ ∃ n p, 0 < n ∧ n < 64 ∧ SAt a₀ #[(0, n, p), (n, 64 - n, 0)] st ∧ Up (arrOf st) 0 n ∧ Up (arrOf st) n 64
theorem modify_one (n q : Nat) (f : Nat × Nat × Nat → Nat × Nat × Nat) : (#[(0, n, q)] : Array (Nat × Nat × Nat)).modify 0 f = #[f (0, n, q)] := by
  apply Array.ext'
  simp [Array.modify, Array.modifyM]
theorem wpS_runs64 {st : SortSt} {Q : Unit → SortSt → Prop} (h0 : IntKeys a₀) (hd : Dis a₀) (hB : SAt a₀ #[] st) (h64 : a₀.size = 64) (h : ∀ st', (arrOf st').Perm a₀ → failedOf st' = none → SortedTo (arrOf st') a₀.size → Q () st') :
    wpS (model prog w) A E s sortRuns' Q st := by
  rw [sortRuns'_eq]
  refine wpS_bind (wpS_get ?_)
  have esz : (arrOf st).size = 64 := hB.perm.size_eq.trans h64
  rw [esz]
  dsimp only
  rw [min64]
  have sz : ∀ {pd : Array (Nat × Nat × Nat)} {st : SortSt}, SAt a₀ pd st → (arrOf st).size = 64 := fun x => x.perm.size_eq.trans h64
  have set : ∀ {pd : Array (Nat × Nat × Nat)} {st : SortSt} {arr : Array Keyed}, SAt a₀ pd st → arr.Perm (arrOf st) → SAt a₀ pd (setArr st arr) := fun x p => ⟨p.trans x.perm, x.kind, x.failed, x.pend⟩
  refine wpS_bind (wpS_mono (wpS_forRange (I := fun x c st' => c.1 = none ∧ ((x = 0 ∧ c.2 = 0 ∧ SAt a₀ #[] st') ∨ (x = 1 ∧ 32 ≤ c.2 ∧ c.2 < 64 ∧ SAt a₀ #[(0, c.2, 0)] st' ∧ Up (arrOf st') 0 c.2) ∨ (1 ≤ x ∧ c.2 = 64 ∧ EndS a₀ st')))
    (Q := fun c st' => c = (none, 64) ∧ EndS a₀ st') ?step ?fin ⟨rfl, .inl ⟨rfl, rfl, hB⟩⟩) ?post)
  case fin =>
    rintro ⟨r, lo⟩ st' ⟨e, ⟨c, _⟩ | ⟨c, _⟩ | ⟨_, e2, z⟩⟩
    · omega
    · omega
    · dsimp only at e e2
      subst e e2
      exact ⟨rfl, z⟩
  case step =>
    rintro x ⟨r, lo⟩ st1 _ hx ⟨e, hc⟩
    dsimp only at e hc ⊢
    subst e
    rcases hc with ⟨rfl, rfl, S1⟩ | ⟨rfl, l32, l64, S1, u1⟩ | ⟨x1, rfl, z⟩
    · -- the first stretch
      rw [if_neg (by omega)]
      have i1 := ints_perm h0 S1.perm
      have fin : ∀ (n : Nat) (arr : Array Keyed), 32 ≤ n → n ≤ 64 → arr.Perm (arrOf st1) → Up arr 0 n → wpS (model prog w) A E s (modify fun s => setPending s ((pendingOf s).push (0, n, 0)) : StateT SortSt Sem Unit) (fun _ st' => (n < 64 → SAt a₀ #[(0, n, 0)] st' ∧ Up (arrOf st') 0 n) ∧ (n = 64 → EndS a₀ st')) (setArr st1 arr) := fun n arr n1 n2 p u => by
        refine wpS_modify ?_
        have ep : (pendingOf (setArr st1 arr)).push (0, n, 0) = #[(0, n, 0)] := by
          show (pendingOf st1).push (0, n, 0) = _
          rw [S1.pend]
          rfl
        have sa : SAt a₀ #[(0, n, 0)] (setPending (setArr st1 arr) ((pendingOf (setArr st1 arr)).push (0, n, 0))) := ⟨p.trans S1.perm, S1.kind, S1.failed, ep⟩
        exact ⟨fun _ => ⟨sa, u⟩, fun e => .inl ⟨e ▸ sa, e ▸ u⟩⟩
      have step : ∀ (n : Nat) (arr : Array Keyed), 32 ≤ n → n ≤ 64 → arr.Perm (arrOf st1) → Up arr 0 n → ∀ st', ((n < 64 → SAt a₀ #[(0, n, 0)] st' ∧ Up (arrOf st') 0 n) ∧ (n = 64 → EndS a₀ st')) →
          (none : Option Unit) = none ∧ ((0 + 1 = 0 ∧ 0 + n = 0 ∧ SAt a₀ #[] st') ∨ (0 + 1 = 1 ∧ 32 ≤ 0 + n ∧ 0 + n < 64 ∧ SAt a₀ #[(0, 0 + n, 0)] st' ∧ Up (arrOf st') 0 (0 + n)) ∨ (1 ≤ 0 + 1 ∧ 0 + n = 64 ∧ EndS a₀ st')) := fun n arr n1 n2 p u st' ⟨k1, k2⟩ => by
        have ez : 0 + n = n := Nat.zero_add n
        by_cases c : n = 64
        · exact ⟨rfl, .inr (.inr ⟨Nat.le_refl _, ez.trans c, k2 c⟩)⟩
        · exact ⟨rfl, .inr (.inl ⟨rfl, by omega, by omega, by rw [ez]; exact (k1 (by omega)).1, by rw [ez]; exact (k1 (by omega)).2⟩)⟩
      refine wpS_bind (wpS_run S1.kind i1 (by rw [sz S1]; omega) (by omega) (hd.perm S1.perm).ne fun m arr m1 m2 p low u => ?_)
      dsimp only
      rw [Nat.zero_add] at u
      have hb : ∀ arr2 : Array Keyed, (pendingOf (setArr (setArr st1 arr) arr2)).back? = none := fun arr2 => by
        show (pendingOf st1).back? = none
        rw [S1.pend]
        rfl
      have hb1 : (pendingOf (setArr st1 arr)).back? = none := hb arr
      by_cases c : m < 32
      · rw [if_pos c]
        refine wpS_bind (wpS_lift (wpAny_rule (And.intro rfl ?_)))
        refine wpS_bind (wpS_ins (st := setArr st1 arr) S1.kind (ints_perm i1 p) (by show 0 + min (64 - 0) 32 ≤ arr.size; rw [p.size_eq, sz S1]; omega) m1 (by omega) (by rw [Nat.zero_add]; exact u) fun arr2 p2 low2 u2 => ?_)
        rw [if_neg (by decide)]
        refine wpS_bind (wpS_get ?_)
        rw [hb arr2]
        dsimp only
        have e32 : min (64 - 0) 32 = 32 := by decide
        rw [e32] at u2 ⊢
        rw [Nat.zero_add] at u2
        exact wpS_bind (wpS_mono (fin 32 arr2 (by omega) (by omega) (p2.trans p) u2) fun _ st' k => wpS_pure (step 32 arr2 (by omega) (by omega) (p2.trans p) u2 st' k))
      · rw [if_neg c]
        refine wpS_bind (wpS_get ?_)
        rw [hb1]
        dsimp only
        exact wpS_bind (wpS_mono (fin m arr (by omega) m2 p u) fun _ st' k => wpS_pure (step m arr (by omega) m2 p u st' k))
    · -- the second
      rw [if_neg (by omega)]
      have i1 := ints_perm h0 S1.perm
      have hb : ∀ st' : SortSt, pendingOf st' = pendingOf st1 → (pendingOf st').back? = some (0, lo, 0) := fun st' e => by
        rw [e, S1.pend]
        rfl
      have fin : ∀ (arr : Array Keyed) (pw : Nat), arr.Perm (arrOf st1) → Up arr 0 lo → Up arr lo 64 → EndS a₀ (setPending (setPending (setArr st1 arr) ((pendingOf (setArr st1 arr)).modify ((pendingOf (setArr st1 arr)).size - 1) fun (st, len, _) => (st, len, pw))) (((pendingOf (setArr st1 arr)).modify ((pendingOf (setArr st1 arr)).size - 1) fun (st, len, _) => (st, len, pw)).push (lo, 64 - lo, 0))) := fun arr pw p ua ub => by
        refine .inr ⟨lo, pw, by omega, l64, ⟨p.trans S1.perm, S1.kind, S1.failed, ?_⟩, ua, ub⟩
        show ((pendingOf st1).modify ((pendingOf st1).size - 1) _).push _ = _
        rw [S1.pend]
        show (Array.modify #[(0, lo, 0)] 0 _).push _ = _
        rw [modify_one]
        rfl
      refine wpS_bind (wpS_run S1.kind i1 (by rw [sz S1]; omega) (by omega) (hd.perm S1.perm).ne fun m arr m1 m2 p low u => ?_)
      dsimp only
      have kept : ∀ {arr2 : Array Keyed}, (∀ k, k < lo → arr2[k]? = (arrOf st1)[k]?) → Up arr2 0 lo := fun {arr2} hl i j a b c => by
        rw [K_congr (hl i (by omega)), K_congr (hl j c)]
        exact u1 i j a b c
      by_cases c : m < 32
      · rw [if_pos c]
        refine wpS_bind (wpS_lift (wpAny_rule (And.intro rfl ?_)))
        refine wpS_bind (wpS_ins (st := setArr st1 arr) S1.kind (ints_perm i1 p) (by show lo + min (64 - lo) 32 ≤ arr.size; rw [p.size_eq, sz S1]; omega) m1 (by omega) u fun arr2 p2 low2 u2 => ?_)
        rw [if_neg (by decide)]
        refine wpS_bind (wpS_get ?_)
        rw [hb _ rfl]
        dsimp only
        have e32 : min (64 - lo) 32 = 64 - lo := by omega
        rw [e32] at u2 ⊢
        rw [show lo + (64 - lo) = 64 by omega] at u2 ⊢
        refine wpS_bind (wpS_mono (wpS_forRange (I := fun _ c st' => c = (none, ()) ∧ setArr st1 arr2 = st') (Q := fun c st' => c = (none, ()) ∧ setArr st1 arr2 = st') ?_ (fun _ _ hh => hh) ⟨rfl, rfl⟩) ?_)
        · rintro y c st' _ _ ⟨rfl, rfl⟩
          refine wpS_bind (wpS_get ?_)
          rw [if_neg (show ¬ (pendingOf (setArr st1 arr2)).size > 1 by show ¬ (pendingOf st1).size > 1; rw [S1.pend]; exact (by decide : ¬ 1 > 1))]
          exact wpS_pure ⟨rfl, rfl⟩
        · rintro c st' ⟨rfl, rfl⟩
          dsimp only
          refine wpS_bind (wpS_modify (wpS_bind (wpS_modify (wpS_pure ⟨rfl, .inr (.inr ⟨by omega, rfl, fin arr2 _ (p2.trans p) (kept fun k hk => (low2 k hk).trans (low k hk)) u2⟩)⟩))))
      · rw [if_neg c]
        refine wpS_bind (wpS_get ?_)
        rw [hb _ rfl]
        dsimp only
        obtain rfl : m = 64 - lo := by omega
        rw [show lo + (64 - lo) = 64 by omega] at u ⊢
        refine wpS_bind (wpS_mono (wpS_forRange (I := fun _ c st' => c = (none, ()) ∧ setArr st1 arr = st') (Q := fun c st' => c = (none, ()) ∧ setArr st1 arr = st') ?_ (fun _ _ hh => hh) ⟨rfl, rfl⟩) ?_)
        · rintro y c st' _ _ ⟨rfl, rfl⟩
          refine wpS_bind (wpS_get ?_)
          rw [if_neg (show ¬ (pendingOf (setArr st1 arr)).size > 1 by show ¬ (pendingOf st1).size > 1; rw [S1.pend]; exact (by decide : ¬ 1 > 1))]
          exact wpS_pure ⟨rfl, rfl⟩
        · rintro c st' ⟨rfl, rfl⟩
          dsimp only
          refine wpS_bind (wpS_modify (wpS_bind (wpS_modify (wpS_pure ⟨rfl, .inr (.inr ⟨by omega, rfl, fin arr _ p (kept low) u⟩)⟩))))
    · rw [if_pos (Nat.le_refl _)]
      exact wpS_pure ⟨rfl, z⟩
  case post =>
    rintro c st1 ⟨rfl, z⟩
    dsimp only
    have out : ∀ st' : SortSt, (arrOf st').Perm a₀ → Up (arrOf st') 0 64 → SortedTo (arrOf st') a₀.size := fun st' p u => by
      rw [h64]
      exact fun i j a b => u i j (Nat.zero_le _) a b
    refine wpS_bind (wpS_mono (wpS_forRange (I := fun x c st' => c = (none, ()) ∧ ((x = 0 ∧ EndS a₀ st') ∨ (SortedTo (arrOf st') a₀.size ∧ (arrOf st').Perm a₀ ∧ failedOf st' = none ∧ (pendingOf st').size ≤ 1)))
      (Q := fun c st' => c = (none, ()) ∧ SortedTo (arrOf st') a₀.size ∧ (arrOf st').Perm a₀ ∧ failedOf st' = none) ?step2 ?fin2 ⟨rfl, .inl ⟨rfl, z⟩⟩) ?post2)
    case fin2 =>
      rintro c st' ⟨rfl, ⟨e, _⟩ | ⟨a, b, c, _⟩⟩
      · omega
      · exact ⟨rfl, a, b, c⟩
    case post2 =>
      rintro c st' ⟨rfl, a, b, c⟩
      exact wpS_pure (h st' b c a)
    case step2 =>
      rintro x c st' _ _ ⟨rfl, hc⟩
      refine wpS_bind (wpS_get ?_)
      have one : (pendingOf st').size ≤ 1 → (SortedTo (arrOf st') a₀.size ∧ (arrOf st').Perm a₀ ∧ failedOf st' = none) → (pendingOf st').size ≤ 1 ∧ SortedTo (arrOf st') a₀.size ∧ (arrOf st').Perm a₀ ∧ failedOf st' = none := fun a b => ⟨a, b⟩
      rcases hc with ⟨rfl, ⟨S1, u⟩ | ⟨n, p, n0, n64, S1, u1, u2⟩⟩ | ⟨a, b, c, d⟩
      · rw [if_pos (by rw [S1.pend]; exact Nat.le_refl 1)]
        exact wpS_pure ⟨rfl, out st' S1.perm u, S1.perm, S1.failed⟩
      · rw [if_neg (by rw [S1.pend]; exact (by decide : ¬ 2 ≤ 1))]
        have e0 : (pendingOf st').size - 2 = 0 := by rw [S1.pend]; rfl
        rw [e0]
        rw [if_neg (show ¬ (0 > 0) by decide), Option.any_none, if_neg Bool.false_ne_true]
        have sz1 := sz S1
        refine wpS_bind (wpS_at (n1 := n) (n2 := 64 - n) S1.kind S1.failed S1.pend (ints_perm h0 S1.perm) (by omega) n0 (by omega) u1 (by rw [show n + (64 - n) = 64 by omega]; exact u2) fun st2 p2 f2 e2 s2 => ?_)
        rw [if_neg (by decide)]
        refine wpS_pure ⟨rfl, .inr ⟨?_, p2.trans S1.perm, f2, by rw [e2]; exact Nat.le_refl 1⟩⟩
        rw [h64]
        rw [sz1] at s2
        exact s2
      · rw [if_pos d]
        exact wpS_pure ⟨rfl, a, b, c⟩
end
end Tim
set_option Elab.async false
set_option linter.all false
set_option maxRecDepth 100000
set_option maxHeartbeats 3000000
namespace Tim
open PySem PyProof.Rows
theorem dis_of {vs : List Value} {ns : List Int} (hI : IntsAre vs ns) (nd : ns.Nodup) : Dis (pairsOf vs) := by
  unfold Dis
  rw [pairsOf_toList]
  have e : (vs.zip vs).map (fun p => numOf p.1) = ns := by
    have q : (vs.zip vs).map (fun p => numOf p.1) = ((vs.zip vs).map Prod.fst).map numOf := by rw [List.map_map]; rfl
    rw [q, List.map_fst_zip (Nat.le_refl _), hI.nums]
  rw [e]
  exact nd
section
variable {s : Shared} {prog : Program} {w : World} {A : Around} {E : Value → Shared → Prop}
theorem list_sort64 {a : Addr} {vs : List Value} {ns : List Int} {n : Nat} {P : PySem.Fin → Shared → Prop} (ho : s.heap.get? a = some (seqObj "list" vs.toArray n)) (hI : IntsAre vs ns) (h64 : vs.length = 64) (nd : ns.Nodup)
    (h : ∀ (res : Array Value) (ms : List Int), IntsAre res.toList ms → ms.Perm ns → ms.Pairwise (· ≤ ·) → P (.done (.ret .none)) { s with heap := sortedHeap s.heap a vs res }) : wpAny (model prog w) A (Builtin.«list.sort» ⟨[.ref a], []⟩) P E s := by
  rw [list_sort_plain]
  refine wpAny_bind (listItems_at ho rfl (wpAny_bind (listUpdate_at ho rfl ?_)))
  obtain ⟨e1, he⟩ : ∃ e1, (s.heap.update a (Obj.mapSeq fun _ => #[])).get? a = some (seqObj "list" #[] e1) := ⟨_, get?_update_seq ho (fun _ => #[])⟩
  refine wpAny_bind (seqEpoch_at he rfl (wpAny_bind (wpAny_newTuple (wpAny_bind (wpAny_newList (wpAny_holding ?_))))))
  have la : a < s.heap.objs.size := Heap.lt_size ho
  have hq : (((s.heap.update a (Obj.mapSeq fun _ => #[])).push (seqObj "tuple" vs.toArray 0)).push (seqObj "list" #[] 0)).get? a = some (seqObj "list" #[] e1) := by
    have c1 : a ≠ ((s.heap.update a (Obj.mapSeq fun _ => #[])).push (seqObj "tuple" vs.toArray 0)).objs.size := by
      rw [size_push', Heap.size_update]
      exact Nat.ne_of_lt (Nat.lt_succ_of_lt la)
    have c2 : a ≠ (s.heap.update a (Obj.mapSeq fun _ => #[])).objs.size := by
      rw [Heap.size_update]
      exact Nat.ne_of_lt la
    rw [Heap.get?_push_ne _ _ _ c1, Heap.get?_push_ne _ _ _ c2]
    exact he
  change wpAny (model prog w) A _ P E { s with heap := ((s.heap.update a (Obj.mapSeq fun _ => #[])).push (seqObj "tuple" vs.toArray 0)).push (seqObj "list" #[] 0) }
  dsimp only
  have sz : ¬ vs.toArray.size < 2 := by rw [List.size_toArray, h64]; decide
  rw [if_neg sz, if_neg sz]
  obtain ⟨v1, v2, rest, rfl⟩ : ∃ v1 v2 rest, vs = v1 :: v2 :: rest := by
    match vs, h64 with
    | v1 :: v2 :: rest, _ => exact ⟨v1, v2, rest, rfl⟩
  rw [keyKind_ints hI]
  have p64 : (pairsOf (v1 :: v2 :: rest)).size = 64 := by rw [pairsOf_size]; exact h64
  refine wpAny_bind (wpAny_pure (wpAny_bind (wpAny_mono (wpS_runs64 (a₀ := pairsOf (v1 :: v2 :: rest)) (st := SortSt.mk' oneType' (pairsOf (v1 :: v2 :: rest)) #[] 7 none)
    (Q := fun _ st' => (arrOf st').Perm (pairsOf (v1 :: v2 :: rest)) ∧ failedOf st' = none ∧ SortedTo (arrOf st') (pairsOf (v1 :: v2 :: rest)).size)
    hI.intKeys (dis_of hI nd) ⟨Array.Perm.refl _, rfl, rfl, rfl⟩ p64 fun st' a1 a2 a3 => ⟨a1, a2, a3⟩) ?_ fun _ _ e => e)))
  rintro ⟨_, st'⟩ s' ⟨rfl, hp, hf, hs⟩
  dsimp only
  have so : ((arrOf st').map (·.2)).size ≤ sizeLine + 1 := by
    rw [Array.size_map, hp.size_eq, p64]
    decide
  refine wpAny_bind (seqEpoch_at hq rfl (wpAny_bind (listUpdate_at hq rfl ?_ (hsz2 := so))))
  rw [hf]
  simp only [bne_self_eq_false, if_false, Bool.false_eq_true]
  obtain ⟨ns', b1, b2, b3⟩ := sorted_out hI hp hs
  exact wpAny_pure (h _ ns' b1 b2 b3)
theorem list_sort_le {a : Addr} {vs : List Value} {ns : List Int} {n : Nat} {P : PySem.Fin → Shared → Prop} (ho : s.heap.get? a = some (seqObj "list" vs.toArray n)) (hI : IntsAre vs ns) (h64 : vs.length ≤ 64) (nd : ns.Nodup)
    (h : ∀ (res : Array Value) (ms : List Int), IntsAre res.toList ms → ms.Perm ns → ms.Pairwise (· ≤ ·) → P (.done (.ret .none)) { s with heap := sortedHeap s.heap a vs res }) : wpAny (model prog w) A (Builtin.«list.sort» ⟨[.ref a], []⟩) P E s := by
  by_cases c : vs.length < 64
  · exact list_sort_tree ho hI c h
  · exact list_sort64 ho hI (by omega) nd h
end
end Tim
set_option Elab.async false
set_option linter.all false
set_option maxRecDepth 100000
set_option maxHeartbeats 1000000
namespace L2
open PySem PySem.Spec PyProof.Rows
section
variable {X : Cx}
def rSortedD64 : List V → Hp → VK → Prop := fun vs H Q => ∃ (a : Addr) (ns : List Int) (kvs : List (Key × V)), vs = [V.ref a] ∧ H a = some (.dK kvs) ∧ kvs.map (·.1) = ns.map Sum.inl ∧ ns.length ≤ 64 ∧ ns.Nodup ∧
  ∀ (ns' : List Int) (p : Addr), ns'.Perm ns → ns'.Pairwise (· ≤ ·) → H p = none → Q (.ref p) (upd H p (.lst (ns'.map V.int)))
theorem cr_sortedD64 (hc : X.calm = true) : CallR X (.builtin "sorted") rSortedD64 := by
  intro pins s σ H vs us Q I r h
  obtain ⟨a, ns, kvs, rfl, hd, hk, h64, nd, q⟩ := h
  obtain ⟨z, hsys, vs, relD, dd⟩ := dk_of I.hok hd
  rw [Vals.ref1 r]
  obtain ⟨ep, hat⟩ := dd.dictAt
  have hlv : kvs.length = vs.length := Paired.length relD
  have hln : kvs.length = ns.length := by
    have := congrArg List.length hk
    rw [List.length_map, List.length_map] at this
    exact this
  refine PySem.Calls.call_function_entry kind_sorted plain_sorted entry_sorted (args_sorted1 _) ?_
  unfold Builtin.«sorted»
  refine wpAny_bind (m := checkCount "sorted" 1 1 _) (wpAny_pure ?_)
  refine wpAny_bind (PySem.W.kdu_collect (A := X.A.in1) (PySem.W.kdl_dict (knd := mixKind X.prog X.w) (kvs := vs) (ep := ep) hsys) (I.ok.hd hc) hat (by rw [← hlv]; exact z) fun h' tk acc hkp hacc => ?_)
  have hl : acc.toList.length = ns.length := by rw [Array.length_toList, hacc.1, ← hlv, hln]
  have hv : IntsAre acc.toList ns := by
    have key : ∀ (j : Nat) (u : Value), acc.toList[j]? = some u → ∃ t, u = Value.int (ns.getD j 0) t := fun j u e => by
      obtain ⟨k, x, e1, e2⟩ := hacc.2 j u (by rw [← Array.getElem?_toList]; exact e)
      have hj : j < ns.length := by rw [← hl]; exact (List.getElem?_eq_some_iff.mp e).1
      obtain ⟨p, q', g1, g2, g3⟩ := Paired.get2 (i := j) relD (by omega)
      rw [e1] at g2
      cases g2
      have e3 : (kvs.map (·.1))[j]? = some p.1 := by rw [List.getElem?_map, g1]; rfl
      rw [hk, List.getElem?_map, List.getElem?_eq_getElem hj] at e3
      have e4 : p.1 = Sum.inl ns[j] := (Option.some.inj e3).symm
      have g3 : p.1 = k := g3.1
      rw [← g3, e4] at e2
      have eg : ns.getD j 0 = ns[j] := by rw [List.getD_eq_getElem?_getD, List.getElem?_eq_getElem hj]; rfl
      rw [eg]
      rcases keyIs_shape (show keyIs (Sum.inl ns[j]) u = true from e2) with ⟨i, t, h1, h2⟩ | ⟨x, t, h1, _⟩
      · cases h1
        exact ⟨t, h2⟩
      · cases h1
    generalize acc.toList = us at hl key
    clear hacc hkp q hk h64 hln nd
    induction us generalizing ns with
    | nil =>
      cases ns with
      | nil => exact .nil
      | cons a b => cases hl
    | cons u us ih =>
      cases ns with
      | nil => cases hl
      | cons n ns =>
        obtain ⟨t, e⟩ := key 0 u rfl
        subst e
        exact .cons _ _ (ih ns (by simpa using hl) fun j u' e => key (j + 1) u' e)
  refine wpAny_bind (wpAny_newList ?_ (by rw [hl]; exact Nat.le_trans h64 (by decide)))
  have I1 := I.kept (h' := h') (t' := tk) hkp
  have I2 := I1.lnew (t' := tk) (vals_of_ints hv) (by rw [List.length_map]; exact Nat.le_trans h64 (by decide))
  have hob : (h'.push { cls := .type "list", data := .seq acc.toList.toArray }).get? h'.objs.size = some { cls := .type "list", data := .seq acc.toList.toArray } := Heap.get?_push_size _ rfl
  have hf : H h'.objs.size = none := I1.hok.fresh (Nat.le_refl _)
  refine wpAny_bind (wpAny_holding (wpAny_call_entry slot_list_sort ⟨_, hob, rfl⟩ entry_list_sort (Tim.list_sort_le hob hv (by rw [hl]; exact h64) nd fun out ns' h1 h2 h3 => ⟨.none, rfl, ?_⟩) (args_list_sort _)))
  obtain ⟨ep', he'⟩ := sortedHeap_at (vs := acc.toList) (out := out) hob
  have hlen : (ns'.map V.int).length ≤ sizeLine := by rw [List.length_map, h2.length_eq]; exact Nat.le_trans h64 (by decide)
  refine wpAny_pure ⟨_, rfl, .ref h'.objs.size, upd H h'.objs.size (.lst (ns'.map V.int)), ?_, rfl, q ns' _ h2 h3 hf⟩
  have I3 := I2.write (x := h'.objs.size) (e := h'.objs.size) (o := .lst (ns'.map V.int)) (t' := tk) (h' := sortedHeap (h'.push { cls := .type "list", data := .seq acc.toList.toArray }) h'.objs.size acc.toList out) (by rw [upd_same]; trivial) (.inl rfl) (fun b u hb hu => by rw [sortedHeap_old hb (Heap.lt_size hu)]; exact hu) ⟨_, he'⟩ ⟨hlen, out.toList, ep', vals_of_ints h1, he'⟩
  rw [upd_upd] at I3
  exact I3
end
end L2
set_option Elab.async false
set_option linter.all false
set_option maxRecDepth 100000
set_option maxHeartbeats 2000000
set_option pp.maxSteps 600
set_option pp.deepTerms false
namespace Tm
open PySem L2
def TldAt (n : Nat) (H : Hp) (v : V) (ks : List Wd) : Prop := ∃ l us, v = .ref l ∧ H l = some (.lst us) ∧ Paired (PrAt H) (toldM ks n) us
theorem TldAt.same {n : Nat} {H H' : Hp} {v : V} {ks : List Wd} (h : TldAt n H v ks) (s : Same H H') : TldAt n H' v ks := by
  obtain ⟨l, us, e, q, p⟩ := h
  exact ⟨l, us, e, s _ _ q, Paired.mapP p fun _ _ z => z.tups (Same.tups s)⟩
def spTogether : Sp := fun vs H Q _ => ∃ (a : Addr) (n : Nat) (kss : List (List Wd)) (ls : List V), vs = [.ref a] ∧ H a = some (.lst ls) ∧ n ≤ 64 ∧ kss.length ≤ 1000 ∧ Paired (TldAt n H) ls kss ∧
  ∀ (l : Addr) (us : List V) (H' : Hp), Same H H' → H l = none → H' l = some (.lst us) → Paired (PrAt H') (toldM kss.flatten n) us → Q (.ref l) H'
def foT (n : Nat) (KS : List Wd) (c : Int) : Str := if 0 ≤ c ∧ c < (n : Int) then lettersM KS c else Str.ofString ""
def goT (n : Nat) (KS ks : List Wd) (j : Nat) (c : Int) : Str := if c ∈ ((toldM ks n).take j).map (·.1) then lettersM (KS ++ ks) c else foT n KS c
theorem go_zero (n : Nat) (KS ks : List Wd) (c : Int) : goT n KS ks 0 c = foT n KS c := by
  unfold goT
  rw [List.take_zero, List.map_nil, if_neg (by simp)]
theorem go_all (n : Nat) (KS ks : List Wd) (c : Int) : goT n KS ks (toldM ks n).length c = foT n (KS ++ ks) c := by
  unfold goT foT
  rw [List.take_length]
  by_cases m : c ∈ (toldM ks n).map (·.1)
  · obtain ⟨⟨d, z⟩, hq, rfl⟩ := List.mem_map.mp m
    obtain ⟨a, b, _, _⟩ := told_mem.mp hq
    rw [if_pos m, if_pos ⟨a, b⟩]
  · rw [if_neg m]
    by_cases r : 0 ≤ c ∧ c < (n : Int)
    · rw [if_pos r, if_pos r]
      have e : lettersM ks c = Str.ofString "" := Classical.byContradiction fun q => m (List.mem_map.mpr ⟨(c, lettersM ks c), told_mem.mpr ⟨r.1, r.2, rfl, q⟩, rfl⟩)
      rw [letters_sgn] at e
      obtain ⟨e1, e2⟩ := sgn_empty.mp e
      rw [letters_sgn, letters_sgn]
      refine sgn_ext fun l hl => ?_
      rw [tl2_app]
      rcases hl with rfl | rfl
      · rw [e1, Bool.or_false]
      · rw [e2, Bool.or_false]
    · rw [if_neg r, if_neg r]
theorem go_next {n : Nat} {KS ks : List Wd} {j : Nat} {c : Int} {z : Str} (h : (toldM ks n)[j]? = some (c, z)) (d : Int) : (if d = c then lettersM (KS ++ ks) c else goT n KS ks j d) = goT n KS ks (j + 1) d := by
  unfold goT
  rw [List.take_succ, h, List.map_append]
  by_cases q : d = c
  · rw [if_pos q, if_pos (by rw [q]; exact List.mem_append_right _ (List.mem_singleton.mpr rfl)), q]
  · rw [if_neg q]
    have : (d ∈ ((toldM ks n).take j).map (·.1) ++ ((some (c, z)).toList.map (·.1))) ↔ d ∈ ((toldM ks n).take j).map (·.1) := by
      rw [List.mem_append]
      constructor
      · rintro (y | y)
        · exact y
        · exact absurd (List.mem_singleton.mp y) q
      · exact .inl
    by_cases m : d ∈ ((toldM ks n).take j).map (·.1)
    · rw [if_pos m, if_pos (this.mpr m)]
    · rw [if_neg m, if_neg (fun y => m (this.mp y))]
theorem told_fresh {n : Nat} {ks : List Wd} {j : Nat} {c : Int} {z : Str} (h : (toldM ks n)[j]? = some (c, z)) : c ∉ ((toldM ks n).take j).map (·.1) := fun m => by
  have r := told_rise ks n
  have hj := (List.getElem?_eq_some_iff.mp h).1
  obtain ⟨i, hi⟩ := List.getElem?_of_mem m
  have hl := (List.getElem?_eq_some_iff.mp hi).1
  rw [List.length_map, List.length_take] at hl
  rw [List.getElem?_map, List.getElem?_take_of_lt (by omega)] at hi
  obtain ⟨q, hq, e⟩ := Option.map_eq_some_iff.mp hi
  have := List.pairwise_iff_getElem.mp r i j (by rw [List.length_map]; omega) (by rw [List.length_map]; omega) (by omega)
  rw [List.getElem_map, List.getElem_map] at this
  have h1 : (toldM ks n)[i]'(by omega) = q := by
    have := List.getElem?_eq_getElem (l := toldM ks n) (i := i) (by omega)
    rw [hq] at this
    exact (Option.some.inj this).symm
  have h2 : (toldM ks n)[j] = (c, z) := (List.getElem?_eq_some_iff.mp h).2
  rw [h1, h2] at this
  simp only at this
  omega
theorem told_vals2 {n : Nat} {ks : List Wd} {kvs : List (Key × V)} (h : Dd n (foT n ks) kvs) : ∃ ns : List Int, kvs.map (·.1) = ns.map Sum.inl ∧ ns.Nodup ∧ ns.length ≤ n ∧ (∀ c ∈ ns, valV kvs (.inl c) = some (.str (lettersM ks c))) ∧ ∀ ns' : List Int, ns'.Perm ns → ns'.Pairwise (· ≤ ·) → ns'.map (fun c => (c, lettersM ks c)) = toldM ks n := by
  obtain ⟨ns, e, nd, l, t⟩ := Dd.told (ks := ks) h
  obtain ⟨ms, e2, _, rg, mem, val⟩ := h
  have en : ns = ms := by
    have := e.symm.trans e2
    have q : ∀ {a b : List Int}, a.map (Sum.inl : Int → Key) = b.map Sum.inl → a = b := by
      intro a
      induction a with
      | nil => intro b h; cases b with
        | nil => rfl
        | cons _ _ => cases h
      | cons x a ih => intro b h; cases b with
        | nil => cases h
        | cons y b =>
          rw [List.map_cons, List.map_cons] at h
          injection h with h1 h2
          rw [Sum.inl.inj h1, ih h2]
    exact q this
  subst en
  refine ⟨ns, e, nd, l, fun c hc => ?_, t⟩
  have r := rg c hc
  have ne := (mem c).mp hc
  rw [val c, if_neg ne]
  unfold foT
  rw [if_pos r]
theorem fill_sam {H H2 H3 : Hp} {D : Addr} {o : HO} (hD : H D = none) (s2 : Same H H2) (s3 : Same H2 H3) : Same H (upd H3 D o) := fun b u e => by
  rw [upd_ne (ne_of_none e hD)]
  exact s3 _ _ (s2 _ _ e)
abbrev s_law_together : Stmt := top 46
abbrev N_law_together : List Str := ["_law_some", "_law_found", "_law_told", "_law_cell", "_law_letters", "_law_both", "_law_sign"]
abbrev P_law_together : List Str := ["_law_some"]
theorem sc_law_together : FnScope N_law_together P_law_together (defScope s_law_together) := ⟨rfl, rfl, rfl, by decide +kernel, rfl, by decide +kernel, by decide +kernel⟩
section
variable {P : Program} {w : World} {K : PySem.W.Frag} {mg : Str → Option Value} {base : Heap}
theorem ok_together {f : Addr} {fd : FuncData} (F : Fun K "_law_together" "_law_together" s_law_together f fd) (T : Tx mg) : FnOk P w K mg base CX0 1 f fd P_law_together spTogether := by
  have sc := sc_law_together
  refine F.ok sc (fun vs H Q E h => ?_) (fun cdv A outer s H vs Q E hr h => ?_)
  · obtain ⟨a, n, kss, ls, rfl, _⟩ := h
    rfl
  obtain ⟨a, n, kss, ls, rfl, ha, hn, hk, ps, k⟩ := h
  have hu := hu_of hr
  have hu64 := hr.units
  refine ⟨_, ((pss_cons (ps_set (i := 1) sc.nd rfl (by first | exact Or.inl rfl | exact Or.inr rfl) pe_dnewK)
  (pss_cons (ps_for PassesOwn.never rfl (pi_list (qv 0)) (pg_name (i := 2) sc.nd rfl (by first | exact Or.inl rfl | exact Or.inr rfl))
  (pss_one (ps_for PassesOwn.never rfl (pi_list (qv 2)) (pg_tup (by rfl) (pgs_cons (pg_name (i := 3) sc.nd rfl (by first | exact Or.inl rfl | exact Or.inr rfl)) (pgs_cons (pg_name (i := 4) sc.nd rfl (by first | exact Or.inl rfl | exact Or.inr rfl)) pgs_nil)))
  (pss_cons (ps_set (i := 5) sc.nd rfl (by first | exact Or.inl rfl | exact Or.inr rfl) (pe_op (oq_add K) (pe_dget2 hu (qv 1) (qv 3) pe_str ⟨by rfl, by rfl, by rfl, by rfl⟩) (qv 4)))
  (pss_one (ps_asg (pe_join pe_str (pe_lc (own := [("_law_sign", 6)]) (g := gName 6) (by rfl) sc.nd (pi_str pe_str) (blkOk_by (own := [("_law_sign", 6)]) (N := N_law_together) (sc := defScope s_law_together) (by decide +kernel)) (fun _ _ _ _ _ => (pg_name (i := 6) sc.nd rfl (by first | exact Or.inl rfl | exact Or.inr rfl))) (fun _ _ _ _ _ => (pts_one (pt_cmpR op_in_sign (qv 6) (qv 5) (by rfl)))) (fun _ _ _ _ _ => (qv 6)))) (pg_sub (qv 1) (qv 3) (sq hu))))))))
  (pss_one (ps_ret (pe_lc (own := [("_law_cell", 3)]) (g := gName 3) (by rfl) sc.nd (pi_list (pe_callB (cr_sortedD64 rfl) (by rfl) T.sorted (by decide +kernel) (pa_cons (qv 1) pa_nil))) (blkOk_by (own := [("_law_cell", 3)]) (N := N_law_together) (sc := defScope s_law_together) (by decide +kernel)) (fun _ _ _ _ _ => (pg_name (i := 3) sc.nd rfl (by first | exact Or.inl rfl | exact Or.inr rfl))) (fun _ _ _ _ _ => pts_nil) (fun _ _ _ _ _ => (pe_tup (pa_cons (qv 3) (pa_cons (pe_ix (iq K hu) (qv 1) (qv 3) (fun _ _ => rfl)) pa_nil))))))))) : PSs _ (_ :: _) _), ?_⟩
  intro d hd
  have s0 := same_new hd (.dK [])
  have e0 : upd H d (.dK []) d = some (.dK []) := upd_same
  have keepd : ∀ {H1 : Hp} (o : HO), Same H H1 → Same H (upd H1 d o) := fun {H1} o s b u q => by
    rw [upd_ne (ne_of_none q hd)]
    exact s _ _ q
  generalize upd H d (.dK []) = H1 at s0 e0 ⊢
  have ll : ls.length = kss.length := Paired.length ps
  refine ⟨a, rfl, ⟨_, SqL.of (s0 _ _ ha)⟩, ?_⟩
  refine for_by (n := ls.length) (fun i σ H2 => Same H H2 ∧ (∃ kvs, H2 d = some (.dK kvs) ∧ Dd n (foT n (kss.take i).flatten) kvs) ∧ ∃ b2 b3 b4 b5 b6, σ = [some (.ref a), some (.ref d), b2, b3, b4, b5, b6]) ⟨s0, ⟨[], e0, (Dd.nil n).ext fun c => ?_⟩, _, _, _, _, _, rfl⟩ ?_ ?_ ?_ ?_
  · unfold foT
    split
    · rw [List.take_zero, List.flatten_nil, letters_sgn]
      exact (sgn_empty.mpr ⟨rfl, rfl⟩).symm
    · rfl
  · rintro i σ H2 hi ⟨s2, _⟩
    exact ⟨_, _, SqL.of (s2 _ _ ha), List.getElem?_eq_getElem hi⟩
  · rintro σ H2 ⟨s2, _⟩
    exact ⟨_, SqL.of (s2 _ _ ha), Nat.le_refl _⟩
  · rintro i σ H2 v H2' hi ⟨s2, ⟨kvs, d2, D2⟩, b2, b3, b4, b5, b6, rfl⟩ ⟨rfl, hv⟩
    have hv := hv _ (SqL.of (s2 _ _ ha))
    obtain ⟨v', ks, e1, e2, l, us, rfl, hl, pu⟩ := Paired.get2 ps hi
    rw [hv] at e1
    cases e1
    have lu : (toldM ks n).length = us.length := Paired.length pu
    have ef : (kss.take (i + 1)).flatten = (kss.take i).flatten ++ ks := by
      rw [List.take_succ, e2]
      simp
    rw [ef]
    generalize (kss.take i).flatten = KS at D2 ⊢
    refine ⟨l, rfl, ⟨_, SqL.of (s2 _ _ hl)⟩, ?_⟩
    refine for_by (n := us.length) (fun j σ H3 => Same H H3 ∧ (∃ kvs, H3 d = some (.dK kvs) ∧ Dd n (goT n KS ks j) kvs) ∧ ∃ b3 b4 b5 b6, σ = [some (.ref a), some (.ref d), some (.ref l), b3, b4, b5, b6]) ⟨s2, ⟨kvs, d2, D2.ext fun c => (go_zero n KS ks c).symm⟩, _, _, _, _, rfl⟩ ?_ ?_ ?_ ?_
    · rintro j σ H3 hj ⟨s3, _⟩
      exact ⟨_, _, SqL.of (s3 _ _ hl), List.getElem?_eq_getElem hj⟩
    · rintro σ H3 ⟨s3, _⟩
      exact ⟨_, SqL.of (s3 _ _ hl), Nat.le_refl _⟩
    · rintro j σ H0 v H3 hj ⟨s3, ⟨kvs, d3, D3⟩, b3, b4, b5, b6, rfl⟩ ⟨rfl, hv⟩
      have hv := hv _ (SqL.of (s3 _ _ hl))
      obtain ⟨⟨c, z⟩, v', e3, e4, t, rfl, ht⟩ := Paired.get2 pu (show j < (toldM ks n).length by omega)
      rw [hv] at e4
      cases e4
      obtain ⟨c0, c1, ez, nz⟩ := told_mem.mp (List.mem_of_getElem? e3)
      refine ⟨t, _, rfl, SqT.of (s3 _ _ ht), rfl, _, _, rfl, _, _, rfl, rfl, ?_⟩
      refine ⟨d, rfl, .inl ⟨_, .inl d3⟩, ?_⟩
      refine ⟨_, DGet.k (k := .inl c) d3, ?_⟩
      rw [show (valV kvs (.inl c)).getD (V.str (Str.ofString "")) = .str (goT n KS ks j c) from D3.get c]
      have eg : goT n KS ks j c = lettersM KS c := by
        unfold goT foT
        rw [if_neg (told_fresh e3), if_pos ⟨c0, c1⟩]
      rw [eg, ez]
      have l1 := letters_len KS c
      have l2 := letters_len ks c
      refine ⟨Nat.le_trans (show (lettersM KS c).length + (lettersM ks c).length ≤ 4 by omega) (by decide), ?_⟩
      have eb : (lettersM KS c ++ lettersM ks c).cps.toList = (sgn (tl2 KS c)).cps.toList ++ (sgn (tl2 ks c)).cps.toList := by
        rw [letters_sgn, letters_sgn]
        exact Array.toList_append
      have bs := both_sgn (tl2 KS c) (tl2 ks c) _ eb
      generalize lettersM KS c ++ lettersM ks c = w at eb bs ⊢
      have ly' : (Str.ofString "gs").cps.size ≤ 1000 := by decide +kernel
      have gs : (Str.ofString "gs").cps.toList = [103, 115] := by decide +kernel
      refine ⟨⟨_, rfl⟩, _, rfl, fun D hD => ?_⟩
      have nDd : D ≠ d := fun y => by rw [y, d3] at hD; cases hD
      refine lc_by (n := (Str.ofString "gs").cps.size) (fun i H4 => Same H3 H4 ∧ H4 D = some (.lst ((((Str.ofString "gs").cps.toList.take i).filter fun c => decide (c ∈ w.cps.toList)).map fun c => V.str ⟨#[c]⟩))) ⟨same_new hD _, upd_same⟩ (fun i H4 hi _ => hi) (fun H4 _ => Nat.le_refl _) ?_ ?_
      · rintro m H4 x H4' hm ⟨s4, hc⟩ ⟨rfl, cc, hx, rfl⟩
        refine ⟨rfl, ?_⟩
        refine ⟨cc, w, rfl, rfl, _, rfl, ?_⟩
        generalize Str.ofString "gs" = y at hx hc ly' hm ⊢
        have hx' : y.cps.toList[m]? = some cc := by simpa using hx
        have ht : y.cps.toList.take (m + 1) = y.cps.toList.take m ++ [cc] := by
          rw [List.take_succ, hx']
          rfl
        have hl : ((y.cps.toList.take m).filter fun c => decide (c ∈ w.cps.toList)).length ≤ 1000 := by
          refine Nat.le_trans (List.length_filter_le _ _) (Nat.le_trans (List.length_take_le' _ _) ?_)
          rw [Array.length_toList]
          exact ly'
        refine ite2 (fun q => ?_) (fun q => ?_)
        · refine ⟨_, hc, small1000 (by rw [List.length_map]; omega), fill_sam hD (Same.refl H3) s4, ?_⟩
          rw [upd_same, ht, List.filter_append, List.map_append]
          congr 3
          show _ = (List.filter _ [cc]).map _
          rw [List.filter_cons, if_pos q]
          rfl
        · refine ⟨s4, ?_⟩
          rw [hc, ht, List.filter_append]
          congr 3
          rw [List.filter_cons, if_neg q]
          simp
      · rintro H4 ⟨s4, hc⟩
        have hall : (Str.ofString "gs").cps.toList.take (Str.ofString "gs").cps.size = (Str.ofString "gs").cps.toList := by rw [← Array.length_toList, List.take_length]
        rw [hall, gs] at hc
        have hj := join_signs (([103, 115] : List Nat).filter fun c => decide (c ∈ w.cps.toList))
        have hl3 : (([103, 115] : List Nat).filter fun c => decide (c ∈ w.cps.toList)).length ≤ 2 := List.length_filter_le _ _
        generalize hcs : (([103, 115] : List Nat).filter fun c => decide (c ∈ w.cps.toList)) = cs at hc hl3 hj bs
        refine ⟨_, D, cs.map fun c => (⟨#[c]⟩ : Str), rfl, rfl, .inl (SqL.of (by rw [List.map_map]; exact hc)), ?_, ?_⟩
        · have e : ((cs.map fun c => (⟨#[c]⟩ : Str)).map (·.length)).sum = cs.length := by
            clear hc hl3 hcs hj bs
            induction cs with
            | nil => rfl
            | cons c cs ih =>
              rw [List.map_cons, List.map_cons, List.sum_cons, ih, List.length_cons]
              show 1 + cs.length = cs.length + 1
              omega
          rw [e, List.length_map, show (Str.ofString "").length = 0 from rfl, Nat.mul_zero]
          exact Nat.le_trans (show cs.length + 0 ≤ 2 by omega) (by decide)
        have ej : Txt.join (Str.ofString "") (cs.map fun c => (⟨#[c]⟩ : Str)) = lettersM (KS ++ ks) c := by
          apply str_ext
          rw [hj]
          have : lettersM (KS ++ ks) c = ⟨cs.toArray⟩ := by
            rw [letters_sgn, bs]
            exact sgn_ext fun l _ => tl2_app KS ks c l
          rw [this]
        rw [ej]
        have nz2 : lettersM (KS ++ ks) c ≠ Str.ofString "" := fun y => by
          rw [letters_sgn] at y
          obtain ⟨y1, y2⟩ := sgn_empty.mp y
          rw [tl2_app] at y1 y2
          refine nz (ez.trans ?_)
          rw [letters_sgn]
          exact sgn_empty.mpr ⟨(Bool.or_eq_false_iff.mp y1).2, (Bool.or_eq_false_iff.mp y2).2⟩
        have d4 := s4 _ _ d3
        have ln := D3.len
        refine .inr ⟨_, d4, Nat.lt_of_le_of_lt ln (Nat.lt_of_le_of_lt hn (by decide)), ?_⟩
        exact ⟨keepd _ (s3.trans s4), ⟨_, upd_same, (D3.put ⟨c0, c1⟩ nz2).ext fun x => go_next e3 x⟩, _, _, _, _, rfl⟩
    · rintro σ H3 ⟨s3, ⟨kvs, d3, D3⟩, b3, b4, b5, b6, rfl⟩
      rw [← lu] at D3
      exact ⟨s3, ⟨kvs, d3, D3.ext fun c => go_all n KS ks c⟩, _, _, _, _, _, rfl⟩
  · rintro σ H2 ⟨s2, ⟨kvs, d2, D2⟩, b2, b3, b4, b5, b6, rfl⟩
    rw [ll, List.take_length] at D2
    generalize kss.flatten = KS at D2 k
    obtain ⟨ns, ek, nd, ln, vals, tl⟩ := told_vals2 D2
    refine ⟨d, ns, kvs, rfl, d2, ek, by omega, nd, fun ns' p pm pw hp => ?_⟩
    have tl := tl ns' pm pw
    have sp := same_new hp (.lst (ns'.map V.int))
    have ep : upd H2 p (.lst (ns'.map V.int)) p = some (.lst (ns'.map V.int)) := upd_same
    have d3 := sp _ _ d2
    have s3 := s2.trans sp
    generalize upd H2 p (.lst (ns'.map V.int)) = H3 at ep d3 s3 ⊢
    have ln' : ns'.length ≤ 64 := by rw [pm.length_eq]; omega
    refine ⟨p, rfl, ⟨_, SqL.of ep⟩, fun D hD => ?_⟩
    refine lc_by (n := ns'.length) (fun i H4 => Same H3 H4 ∧ ∃ us, H4 D = some (.lst us) ∧ Paired (PrAt H4) ((ns'.take i).map fun c => (c, lettersM KS c)) us) ⟨same_new hD _, [], upd_same, .nil⟩ ?_ ?_ ?_ ?_
    · rintro i H4 hi ⟨s4, _⟩
      exact ⟨_, _, SqL.of (s4 _ _ ep), List.getElem?_eq_getElem (by rw [List.length_map]; omega)⟩
    · rintro H4 ⟨s4, _⟩
      exact ⟨_, SqL.of (s4 _ _ ep), by rw [List.length_map]; exact Nat.le_refl _⟩
    · rintro i H4 v H4' hi ⟨s4, us, d4, p4⟩ ⟨rfl, hv⟩
      have hv := hv _ (SqL.of (s4 _ _ ep))
      rw [List.getElem?_map] at hv
      obtain ⟨c, ec, rfl⟩ := Option.map_eq_some_iff.mp hv
      have vc := vals c (pm.mem_iff.mp (List.mem_of_getElem? ec))
      have gd : DGet H4' d (.int c) (some (.str (lettersM KS c))) := by
        have := DGet.k (k := .inl c) (s4 _ _ d3)
        rw [vc] at this
        exact this
      refine ⟨rfl, ?_⟩
      refine .inr (.inr ⟨_, gd, ?_⟩)
      refine ⟨(by decide : 2 ≤ sizeLine), fun t ht => ?_⟩
      have st := same_new ht (.tup [.int c, .str (lettersM KS c)])
      have dt := st _ _ d4
      have tp : Tups (upd H4' t (.tup [.int c, .str (lettersM KS c)])) (upd (upd H4' t (.tup [.int c, .str (lettersM KS c)])) D (.lst (us ++ [.ref t]))) := Tups.upd (soft_lst dt)
      have lu := Paired.length p4
      rw [List.length_map, List.length_take] at lu
      refine ⟨_, dt, small1000 (by omega), fill_sam hD s4 st, us ++ [.ref t], upd_same, ?_⟩
      rw [List.take_succ, ec, List.map_append]
      exact paired_add (Paired.mapP p4 fun _ _ q => (q.tups (Same.tups st)).tups tp) ⟨t, rfl, tp _ _ upd_same⟩
    · rintro H4 ⟨s4, us, d4, p4⟩
      rw [List.take_length, tl] at p4
      have s := s3.trans s4
      have nD : H D = none := by
        cases q : H D with
        | none => rfl
        | some o => rw [s3 _ _ q] at hD; cases hD
      exact k D us H4 s nD d4 p4
end
end Tm
set_option Elab.async false
set_option linter.all false
set_option maxRecDepth 100000
set_option maxHeartbeats 1000000
namespace Tm
open PySem L2
abbrev s_law_taken : Stmt := top 47
abbrev N_law_taken : List Str := ["_law_row", "_law_many", "_law_cell", "_law_found"]
abbrev P_law_taken : List Str := ["_law_row", "_law_many"]
theorem sc_law_taken : FnScope N_law_taken P_law_taken (defScope s_law_taken) := ⟨rfl, rfl, rfl, by decide +kernel, rfl, by decide +kernel, by decide +kernel⟩
section
variable {P : Program} {w : World} {K : PySem.W.Frag} {mg : Str → Option Value} {base : Heap}
theorem ok_taken {f : Addr} {fd : FuncData} (F : Fun K "_law_taken" "_law_taken" s_law_taken f fd) (T : Tx mg) : FnOk P w K mg base CX0 1 f fd P_law_taken (spTaken K) := by
  have sc := sc_law_taken
  refine F.ok sc (fun vs H Q E h => ?_) (fun cdv A outer s H vs Q E hr h => ?_)
  · obtain ⟨R, m, rfl, _⟩ := h
    rfl
  obtain ⟨R, m, rfl, ⟨a, ns, i, s, c, hR, far, hl, hi⟩, hm, hM, k⟩ := h
  have hu := hu_of hr
  refine ⟨_, ((pss_cons (ps_if (pt_cmpR oq_gt (pe_ix (iq K hu) (qv 0) pe_int (fun _ _ => rfl)) pe_int (nomark _))
  (pss_cons (ps_set (i := 3) sc.nd rfl (by first | exact Or.inl rfl | exact Or.inr rfl) (pe_op oq_mod (pe_ix (iq K hu) (qv 0) pe_int (fun _ _ => rfl)) (qv 1)))
  (pss_cons (ps_asg (pe_op oq_div (pe_ix (iq K hu) (qv 0) pe_int (fun _ _ => rfl)) (qv 1)) (pg_sub (qv 0) pe_int (sq hu)))
  (pss_one (ps_ret (qv 3)))))
  pss_nil)
  (pss_cons (ps_asg (pe_op (oq_add K) (pe_ix (iq K hu) (qv 0) pe_int (fun _ _ => rfl)) pe_int) (pg_sub (qv 0) pe_int (sq hu)))
  (pss_cons (ps_if (pt_cmpR oq_gt (pe_ix (iq K hu) (qv 0) pe_int (fun _ _ => rfl)) (pe_callB (cq_len K) (by rfl) T.len (by decide +kernel) (pa_cons (pe_ix (iq K hu) (qv 0) pe_int (fun _ _ => rfl)) pa_nil)) (nomark _))
  (pss_cons (ps_asg (pe_op oq_mod (pe_op (oq_add K) (pe_op oq_mul (pe_ix (iq K hu) (qv 0) pe_int (fun _ _ => rfl)) pe_int) pe_int) pe_int) (pg_sub (qv 0) pe_int (sq hu)))
  (pss_one (ps_ret (pe_op oq_mod (pe_op oq_div (pe_ix (iq K hu) (qv 0) pe_int (fun _ _ => rfl)) pe_int) (qv 1)))))
  pss_nil)
  (pss_cons (ps_set (i := 2) sc.nd rfl (by first | exact Or.inl rfl | exact Or.inr rfl) (pe_ix (iq K hu) (pe_ix (iq K hu) (qv 0) pe_int (fun _ _ => rfl)) (pe_op oq_sub (pe_ix (iq K hu) (qv 0) pe_int (fun _ _ => rfl)) pe_int) (fun _ _ => rfl)))
  (pss_cons (ps_asg (pe_op oq_mod (pe_op (oq_add K) (pe_op (oq_add K) (pe_op oq_mul (pe_ix (iq K hu) (qv 0) pe_int (fun _ _ => rfl)) pe_int) (qv 2)) pe_int) pe_int) (pg_sub (qv 0) pe_int (sq hu)))
  (pss_cons (ps_if (pt_cmpR oq_ge (qv 2) (pe_op oq_pow pe_int pe_int) (nomark _))
  (pss_one (ps_asg (pe_op oq_div (qv 2) (qv 1)) (pg_sub (qv 0) pe_int (sq hu))))
  pss_nil)
  (pss_one (ps_ret (pe_op oq_mod (qv 2) (qv 1)))))))))) : PSs _ (_ :: _) _), ?_⟩
  refine .inl ⟨_, _, SqL.of hR, rfl, _, rfl, ?_⟩
  refine ite2 (fun h1 => ?_) (fun h1 => ?_)
  · refine .inl ⟨_, _, SqL.of hR, rfl, hm, .inl ⟨_, _, SqL.of hR, rfl, ⟨hm, hM⟩, .inl ⟨_, _, hR, rfl, ?_⟩⟩⟩
    exact k _ _ (Int.emod_nonneg _ (by omega)) (Int.emod_lt_of_pos _ hm) ⟨RowAt.put far hl hi (soft_lst hR), Up.at R H _⟩
  · refine .inl ⟨_, _, SqL.of hR, rfl, .inl ⟨_, _, hR, rfl, ?_⟩⟩
    have far1 := far.upd (o := .lst [.ref a, .int (i + 1), .int s, .int c]) (soft_lst hR)
    have e1 : (upd H R (.lst [.ref a, .int (i + 1), .int s, .int c])) R = some (.lst [.ref a, .int (i + 1), .int s, .int c]) := upd_same
    refine .inl ⟨_, _, SqL.of e1, rfl, .inl ⟨_, _, SqL.of e1, rfl, .inl ⟨_, far1.sq, _, rfl, ?_⟩⟩⟩
    refine ite2 (fun h2 => ?_) (fun h2 => ?_)
    · refine .inl ⟨_, _, SqL.of e1, rfl, .inr ⟨by decide, by decide⟩, (by show (0 : Int) < 2147483647; decide), .inl ⟨_, _, e1, rfl, ?_⟩⟩
      refine .inl ⟨_, _, SqL.of upd_same, rfl, ⟨by decide, by decide⟩, hm, ?_⟩
      exact k _ _ (Int.emod_nonneg _ (by omega)) (Int.emod_lt_of_pos _ hm) ⟨RowAt.put far1 hl (by omega) (soft_lst e1), ((Up.at R H _).trans (Up.at R _ _))⟩
    · have h2' : ¬ ((((ns.map V.int).length : Nat) : Int) < i + 1) := fun z => h2 (decide_eq_true z)
      rw [List.length_map] at h2'
      have hk : i.toNat < ns.length := by omega
      have ev : atI (ns.map V.int) (i + 1 - 1) = some (.int (ns[i.toNat])) := by
        have q : i + 1 - 1 = ((i.toNat : Nat) : Int) := by omega
        rw [q]
        exact atI_nat (by rw [List.getElem?_map, List.getElem?_eq_getElem hk] <;> rfl)
      generalize ns[i.toNat] = v at ev
      refine .inl ⟨_, _, SqL.of e1, rfl, .inl ⟨_, _, SqL.of e1, rfl, .inl ⟨_, _, far1.sq, ev, ?_⟩⟩⟩
      refine .inl ⟨_, _, SqL.of e1, rfl, .inr ⟨by decide, by decide⟩, (by show (0 : Int) < 2147483647; decide), .inl ⟨_, _, e1, rfl, ?_⟩⟩
      refine ⟨⟨by decide, by decide, by decide⟩, _, rfl, ?_⟩
      refine ite2 (fun h3 => ?_) (fun h3 => ?_)
      · refine ⟨⟨hm, hM⟩, .inl ⟨_, _, upd_same, rfl, ?_⟩⟩
        refine ⟨hm, ?_⟩
        exact k _ _ (Int.emod_nonneg _ (by omega)) (Int.emod_lt_of_pos _ hm) ⟨RowAt.put (far1.upd (soft_lst e1)) hl (by omega) (soft_lst upd_same), (((Up.at R H _).trans (Up.at R _ _)).trans (Up.at R _ _))⟩
      · refine ⟨hm, ?_⟩
        exact k _ _ (Int.emod_nonneg _ (by omega)) (Int.emod_lt_of_pos _ hm) ⟨RowAt.put far1 hl (by omega) (soft_lst e1), ((Up.at R H _).trans (Up.at R _ _))⟩
end
end Tm
set_option Elab.async false
set_option linter.all false
set_option maxRecDepth 100000
set_option maxHeartbeats 1000000
namespace Tm
open PySem L2
def isNum (v : V) : Prop := ∃ n : Int, v = .int n ∧ -10000 ≤ n ∧ n ≤ 9999
abbrev s_law_number : Stmt := top 48
abbrev N_law_number : List Str := ["_law_row", "_law_way"]
abbrev P_law_number : List Str := ["_law_row"]
theorem sc_law_number : FnScope N_law_number P_law_number (defScope s_law_number) := ⟨rfl, rfl, rfl, by decide +kernel, rfl, by decide +kernel, by decide +kernel⟩
section
variable {P : Program} {w : World} {K : PySem.W.Frag} {mg : Str → Option Value} {base : Heap}
theorem ok_number {f : Addr} {fd : FuncData} (F : Fun K "_law_number" "_law_number" s_law_number f fd) (D_law_taken : Df P w K mg base 1 "_law_taken" P_law_taken [] (spTaken K)) : FnOk P w K mg base CX0 2 f fd P_law_number (spDraw K fun v _ => isNum v) := by
  have sc := sc_law_number
  refine F.ok sc (fun vs H Q E h => ?_) (fun cdv A outer s H vs Q E hr h => ?_)
  · obtain ⟨R, rfl, _⟩ := h
    rfl
  obtain ⟨R, rfl, r0, k⟩ := h
  have hu := hu_of hr
  refine ⟨_, ((pss_cons (ps_set (i := 1) sc.nd rfl (by first | exact Or.inl rfl | exact Or.inr rfl) (qcall D_law_taken (by first | exact hr | exact hr.mono (by omega)) (pa_cons (qv 0) (pa_cons pe_int pa_nil))))
  (pss_cons (ps_if (pt_cmpR oq_lt (qv 1) pe_int (nomark _))
  (pss_one (ps_ret (pe_ix (iq K hu) (pe_lst (pa_cons (qcall D_law_taken (by first | exact hr | exact hr.mono (by omega)) (pa_cons (qv 0) (pa_cons pe_int pa_nil))) (pa_cons (qcall D_law_taken (by first | exact hr | exact hr.mono (by omega)) (pa_cons (qv 0) (pa_cons pe_int pa_nil))) (pa_cons (pe_op oq_sub (qcall D_law_taken (by first | exact hr | exact hr.mono (by omega)) (pa_cons (qv 0) (pa_cons pe_int pa_nil))) pe_int) (pa_cons pe_int pa_nil))))) (qv 1) (fun _ _ => rfl))))
  pss_nil)
  (pss_one (ps_ret (pe_ix (iq K hu) (pe_lst (pa_cons (pe_op oq_sub (qcall D_law_taken (by first | exact hr | exact hr.mono (by omega)) (pa_cons (qv 0) (pa_cons pe_int pa_nil))) pe_int) (pa_cons (pe_ix (iq K hu) (pe_lst (pa_cons pe_int (pa_cons (pe_op oq_sub pe_int pe_int) pa_nil))) (qcall D_law_taken (by first | exact hr | exact hr.mono (by omega)) (pa_cons (qv 0) (pa_cons pe_int pa_nil))) (fun _ _ => rfl)) pa_nil))) (pe_op oq_sub (qv 1) pe_int) (fun _ _ => rfl)))))) : PSs _ (_ :: _) _), ?_⟩
  refine ⟨R, 6, rfl, r0, by decide, by decide, fun n H1 h0 h1 o1 => ?_⟩
  refine ⟨_, rfl, ?_⟩
  refine ite2 (fun c => ?_) (fun c => ?_)
  · have c' : n < 4 := of_decide_eq_true c
    refine ⟨R, 5, rfl, o1.row, by decide, by decide, fun n2 H2 h20 h21 o2 => ?_⟩
    refine ⟨R, 70, rfl, o2.row, by decide, by decide, fun n3 H3 h30 h31 o3 => ?_⟩
    refine ⟨R, 40, rfl, o3.row, by decide, by decide, fun n4 H4 h40 h41 o4 => ?_⟩
    refine ⟨(by decide : 4 ≤ sizeLine), fun p hp => ?_⟩
    have on := (((o1.trans o2).trans o3).trans o4).new hp (.lst [.int n2, .int n3, .int (n4 - 20), .int 1])
    obtain rfl | rfl | rfl | rfl : n = 0 ∨ n = 1 ∨ n = 2 ∨ n = 3 := by omega
    · exact .inl ⟨_, _, SqL.of upd_same, rfl, k _ _ on ⟨_, rfl, by omega, by omega⟩⟩
    · exact .inl ⟨_, _, SqL.of upd_same, rfl, k _ _ on ⟨_, rfl, by omega, by omega⟩⟩
    · exact .inl ⟨_, _, SqL.of upd_same, rfl, k _ _ on ⟨_, rfl, by omega, by omega⟩⟩
    · exact .inl ⟨_, _, SqL.of upd_same, rfl, k _ _ on ⟨_, rfl, by omega, by omega⟩⟩
  · have c' : ¬ n < 4 := fun z => c (decide_eq_true z)
    refine ⟨R, 20000, rfl, o1.row, by decide, by decide, fun n2 H2 h20 h21 o2 => ?_⟩
    refine ⟨(by decide : 2 ≤ sizeLine), fun p hp => ?_⟩
    have o2' := o2.new hp (.lst [.int 9999, .int (0 - 10000)])
    have e2 : upd H2 p (.lst [.int 9999, .int (0 - 10000)]) p = _ := upd_same
    refine ⟨R, 2, rfl, o2'.row, by decide, by decide, fun n3 H3 h30 h31 o3 => ?_⟩
    have e3 := o3.at e2 (o2.row.ne hp)
    obtain ⟨v3, a3, b3⟩ : ∃ v3, atI [V.int 9999, V.int (0 - 10000)] n3 = some v3 ∧ isNum v3 := by
      obtain rfl | rfl : n3 = 0 ∨ n3 = 1 := by omega
      · exact ⟨_, rfl, _, rfl, by omega, by omega⟩
      · exact ⟨_, rfl, _, rfl, by omega, by omega⟩
    refine .inl ⟨_, _, SqL.of e3, a3, ?_⟩
    refine ⟨(by decide : 2 ≤ sizeLine), fun p' hp' => ?_⟩
    have on := ((o1.trans o2').trans o3).new hp' (.lst [.int (n2 - 10000), v3])
    obtain rfl | rfl : n = 4 ∨ n = 5 := by omega
    · exact .inl ⟨_, _, SqL.of upd_same, rfl, k _ _ on ⟨_, rfl, by omega, by omega⟩⟩
    · exact .inl ⟨_, _, SqL.of upd_same, rfl, k _ _ on b3⟩
end
end Tm
set_option Elab.async false
set_option linter.all false
set_option maxRecDepth 100000
set_option maxHeartbeats 1000000
namespace Tm
open PySem L2
def Wd.deep : Wd → Nat
  | .gate _ w => w.deep + 1
  | _ => 0
theorem Wd.plain_deep {w : Wd} (h : w.plain) : w.deep = 0 := by cases w <;> first | rfl | exact h.elim
theorem Wd.deep_plain {w : Wd} (h : w.deep = 0) : w.plain := by cases w <;> first | trivial | exact absurd h (Nat.succ_ne_zero _)
theorem rights_len {r : Str} (h : RightsOk r) : r.length ≤ 4 := by
  have := h.length_le
  rw [Array.length_toList] at this
  exact this
theorem rights_tail {r : Str} (h : RightsOk r) : RightsOk (cutS r (some 1) none) := by
  unfold RightsOk cutS
  exact (((List.take_sublist _ _).trans (List.drop_sublist _ _)).trans h)
theorem kgN : decide (V.str "key" = V.str "gate") = false := by decide +kernel
theorem ggN : decide (V.str "gate" = V.str "gate") = true := by decide +kernel
end Tm
set_option Elab.async false
set_option linter.all false
set_option maxRecDepth 100000
set_option maxHeartbeats 1000000
namespace Tm
open PySem L2
def isRights (v : V) : Prop := ∃ r, v = .str r ∧ RightsOk r
abbrev s_law_rights : Stmt := top 53
abbrev N_law_rights : List Str := ["_law_row", "_law_often", "_law_sign"]
abbrev P_law_rights : List Str := ["_law_row"]
theorem sc_law_rights : FnScope N_law_rights P_law_rights (defScope s_law_rights) := ⟨rfl, rfl, rfl, by decide +kernel, rfl, by decide +kernel, by decide +kernel⟩
section
variable {P : Program} {w : World} {K : PySem.W.Frag} {mg : Str → Option Value} {base : Heap}
theorem ok_rights {f : Addr} {fd : FuncData} (F : Fun K "_law_rights" "_law_rights" s_law_rights f fd) (T : Tx mg) (D_law_taken : Df P w K mg base 1 "_law_taken" P_law_taken [] (spTaken K)) : FnOk P w K mg base CX0 2 f fd P_law_rights (spDraw K fun v _ => isRights v) := by
  have sc := sc_law_rights
  refine F.ok sc (fun vs H Q E h => ?_) (fun cdv A outer s H vs Q E hr h => ?_)
  · obtain ⟨R, rfl, _⟩ := h
    rfl
  obtain ⟨R, rfl, r0, k⟩ := h
  have hu := hu_of hr
  refine ⟨_, ((pss_cons (ps_set (i := 1) sc.nd rfl (by first | exact Or.inl rfl | exact Or.inr rfl) (pe_ix (iq K hu) (pe_lst (pa_lits [.int 4, .int 9, .int 2] (by decide +kernel))) (qcall D_law_taken (by first | exact hr | exact hr.mono (by omega)) (pa_cons (qv 0) (pa_cons pe_int pa_nil))) (fun _ _ => rfl)))
  (pss_one (ps_ret (pe_join pe_str (pe_lc (own := [("_law_sign", 2)]) (g := gName 2) (by rfl) sc.nd (pi_str pe_str) (blkOk_by (own := [("_law_sign", 2)]) (N := N_law_rights) (sc := defScope s_law_rights) (by decide +kernel)) (fun _ _ _ _ _ => (pg_name (i := 2) sc.nd rfl (by first | exact Or.inl rfl | exact Or.inr rfl))) (fun _ _ _ _ _ => (pts_one (pt_cmpR oq_gt (qcall D_law_taken (by first | exact hr | exact hr.mono (by omega)) (pa_cons (qv 0) (pa_cons (qv 1) pa_nil))) pe_int (nomark _)))) (fun _ _ _ _ _ => (qv 2))))))) : PSs _ (_ :: _) _), ?_⟩
  refine ⟨(by decide : 3 ≤ sizeLine), fun p hp => ?_⟩
  have s1 := same_new hp (.lst [.int 4, .int 9, .int 2])
  refine ⟨R, 3, rfl, r0.same s1, by decide, by decide, fun n H1 h0 h1 o1 => ?_⟩
  have e1 : H1 p = some (.lst [.int 4, .int 9, .int 2]) := o1.at upd_same (r0.ne hp)
  obtain ⟨m, em, hm⟩ : ∃ m : Int, atI [V.int 4, .int 9, .int 2] n = some (.int m) ∧ 0 < m ∧ m < 10 := by
    obtain rfl | rfl | rfl : n = 0 ∨ n = 1 ∨ n = 2 := by omega
    · exact ⟨4, rfl, by decide, by decide⟩
    · exact ⟨9, rfl, by decide, by decide⟩
    · exact ⟨2, rfl, by decide, by decide⟩
  refine .inl ⟨_, _, SqL.of e1, em, ?_⟩
  refine ⟨⟨_, rfl⟩, _, rfl, fun D hD => ?_⟩
  have nD := o1.row.ne hD
  have hg : ∀ i : Nat, (Str.ofString "ghls").cps[i]? = ([103, 104, 108, 115] : List Nat)[i]? := fun i => by
    have e : (Str.ofString "ghls").cps = #[103, 104, 108, 115] := by decide +kernel
    rw [e]
    simp
  refine lc_by (n := 4) (fun i H2 => On K R H1 H2 ∧ ∃ cs : List Nat, H2 D = some (.lst (cs.map fun c => V.str ⟨#[c]⟩)) ∧ cs.length ≤ i ∧ cs.Sublist ([103, 104, 108, 115].take i)) ⟨(On.refl o1.row).new hD _, [], upd_same, Nat.le_refl _, List.Sublist.refl _⟩ (fun i H2 hi _ => hi) (fun H2 _ => Nat.le_refl 4) ?_ ?_
  · rintro i H2 x H2' hi ⟨o2, cs, hc, hl, hsub⟩ ⟨rfl, c, hx, rfl⟩
    refine ⟨rfl, ?_⟩
    refine ⟨R, m, rfl, o2.row, by omega, by omega, fun n3 H3 h30 h31 o3 => ?_⟩
    have hc3 := o3.at hc nD
    have hx' : ([103, 104, 108, 115] : List Nat)[i]? = some c := (hg i).symm.trans hx
    have ht : ([103, 104, 108, 115] : List Nat).take (i + 1) = ([103, 104, 108, 115] : List Nat).take i ++ [c] := by
      rw [List.take_succ, hx']
      rfl
    refine ⟨_, rfl, ite2 (fun _ => ?_) (fun _ => ?_)⟩
    · refine ⟨_, hc3, small1000 (by rw [List.length_map]; omega), (o2.trans o3).fill hD nD (soft_lst hc3) _, cs ++ [c], ?_, ?_, ?_⟩
      · rw [upd_same, List.map_append]
        rfl
      · rw [List.length_append, List.length_singleton]
        omega
      · rw [ht]
        exact List.Sublist.append hsub (List.Sublist.refl _)
    · exact ⟨o2.trans o3, cs, hc3, by omega, by rw [ht]; exact hsub.trans (List.sublist_append_left _ _)⟩
  · rintro H2 ⟨o2, cs, hc, hl, hsub⟩
    refine ⟨_, D, cs.map fun c => (⟨#[c]⟩ : Str), rfl, rfl, .inl (SqL.of (by rw [List.map_map]; exact hc)), ?_, ?_⟩
    · have e : ((cs.map fun c => (⟨#[c]⟩ : Str)).map (·.length)).sum = cs.length := by
        clear hc hl hsub
        induction cs with
        | nil => rfl
        | cons c cs ih =>
          rw [List.map_cons, List.map_cons, List.sum_cons, ih, List.length_cons]
          show 1 + cs.length = cs.length + 1
          omega
      rw [e, List.length_map, show (Str.ofString "").length = 0 from rfl, Nat.mul_zero]
      omega
    · refine k _ _ ((((On.refl r0).new hp _).trans o1).trans o2) ⟨_, rfl, ?_⟩
      unfold RightsOk
      rw [join_signs]
      exact hsub
end
end Tm
set_option Elab.async false
set_option linter.all false
set_option maxRecDepth 100000
set_option maxHeartbeats 1000000
namespace Tm
open PySem L2
def KeyOk (most b e a : Int) (r : Str) : Prop := 0 ≤ b ∧ b < e ∧ e ≤ most ∧ numOk a ∧ RightsOk r
def spKey (K : PySem.W.Frag) : Sp := fun vs H Q _ => ∃ (R : Addr) (most : Int), vs = [.ref R, .int most] ∧ RowAt K H R ∧ 0 < most ∧ most ≤ 64 ∧
  ∀ (v : V) (H' : Hp) (b e a : Int) (r : Str), On K R H H' → IsW H' (.key b e a r) v → KeyOk most b e a r → Q v H'
abbrev s_law_key : Stmt := top 52
abbrev N_law_key : List Str := ["_law_row", "_law_most", "_law_begin", "_law_end", "_law_at"]
abbrev P_law_key : List Str := ["_law_row", "_law_most"]
theorem sc_law_key : FnScope N_law_key P_law_key (defScope s_law_key) := ⟨rfl, rfl, rfl, by decide +kernel, rfl, by decide +kernel, by decide +kernel⟩
section
variable {P : Program} {w : World} {K : PySem.W.Frag} {mg : Str → Option Value} {base : Heap}
theorem ok_key {f : Addr} {fd : FuncData} (F : Fun K "_law_key" "_law_key" s_law_key f fd) (T : Tx mg) (D_law_taken : Df P w K mg base 1 "_law_taken" P_law_taken [] (spTaken K))
    (D_law_rights : Df P w K mg base 2 "_law_rights" P_law_rights [] (spDraw K fun v _ => isRights v)) : FnOk P w K mg base CX0 3 f fd P_law_key (spKey K) := by
  have sc := sc_law_key
  refine F.ok sc (fun vs H Q E h => ?_) (fun cdv A outer s H vs Q E hr h => ?_)
  · obtain ⟨R, m, rfl, _⟩ := h
    rfl
  obtain ⟨R, most, rfl, r0, hm, hM, k⟩ := h
  have hu := hu_of hr
  have hu64 := hr.units
  refine ⟨_, ((pss_cons (ps_set (i := 2) sc.nd rfl (by first | exact Or.inl rfl | exact Or.inr rfl) (qcall D_law_taken (by first | exact hr | exact hr.mono (by omega)) (pa_cons (qv 0) (pa_cons (qv 1) pa_nil))))
  (pss_cons (ps_set (i := 3) sc.nd rfl (by first | exact Or.inl rfl | exact Or.inr rfl) (pe_op (oq_add K) (pe_op (oq_add K) (qv 2) pe_int) (qcall D_law_taken (by first | exact hr | exact hr.mono (by omega)) (pa_cons (qv 0) (pa_cons (pe_callB (call_min2 rfl) (by rfl) T.min (by decide +kernel) (pa_cons (pe_op oq_sub (qv 1) (qv 2)) (pa_cons (pe_ix (iq K hu) (pe_lst (pa_lits [.int 4, .int 9, .int 64] (by decide +kernel))) (qcall D_law_taken (by first | exact hr | exact hr.mono (by omega)) (pa_cons (qv 0) (pa_cons pe_int pa_nil))) (fun _ _ => rfl)) pa_nil))) pa_nil)))))
  (pss_cons (ps_set (i := 4) sc.nd rfl (by first | exact Or.inl rfl | exact Or.inr rfl) (pe_op (oq_add K) (qv 2) (qcall D_law_taken (by first | exact hr | exact hr.mono (by omega)) (pa_cons (qv 0) (pa_cons (pe_op oq_sub (qv 3) (qv 2)) pa_nil)))))
  (pss_cons (ps_if (pt_cmpR (oq_eq K hu64) (qcall D_law_taken (by first | exact hr | exact hr.mono (by omega)) (pa_cons (qv 0) (pa_cons pe_int pa_nil))) pe_int (nomark _))
  (pss_one (ps_set (i := 4) sc.nd rfl (by first | exact Or.inl rfl | exact Or.inr rfl) (pe_ix (iq K hu) (pe_lst (pa_cons (pe_op oq_sub (qcall D_law_taken (by first | exact hr | exact hr.mono (by omega)) (pa_cons (qv 0) (pa_cons pe_int pa_nil))) pe_int) (pa_cons (qv 3) (pa_cons (pe_op oq_sub (qv 2) pe_int) pa_nil)))) (qcall D_law_taken (by first | exact hr | exact hr.mono (by omega)) (pa_cons (qv 0) (pa_cons pe_int pa_nil))) (fun _ _ => rfl))))
  pss_nil)
  (pss_one (ps_ret (pe_tup (pa_cons pe_str (pa_cons (qv 2) (pa_cons (qv 3) (pa_cons (qv 4) (pa_cons (qcall D_law_rights (by first | exact hr | exact hr.mono (by omega)) (pa_cons (qv 0) pa_nil)) pa_nil)))))))))))) : PSs _ (_ :: _) _), ?_⟩
  refine ⟨R, most, rfl, r0, hm, by omega, fun b H1 b0 b1 o1 => ?_⟩
  refine ⟨(by decide : 3 ≤ sizeLine), fun p hp => ?_⟩
  have o1' := o1.new hp (.lst [.int 4, .int 9, .int 64])
  refine ⟨R, 3, rfl, o1'.row, by decide, by decide, fun n H2 n0 n1 o2 => ?_⟩
  have e2 : H2 p = some (.lst [.int 4, .int 9, .int 64]) := o2.at upd_same (o1.row.ne hp)
  obtain ⟨q, eq, q0⟩ : ∃ q : Int, atI [V.int 4, .int 9, .int 64] n = some (.int q) ∧ 0 < q := by
    obtain rfl | rfl | rfl : n = 0 ∨ n = 1 ∨ n = 2 := by omega
    · exact ⟨4, rfl, by decide⟩
    · exact ⟨9, rfl, by decide⟩
    · exact ⟨64, rfl, by decide⟩
  refine .inl ⟨_, _, SqL.of e2, eq, ?_⟩
  refine ⟨_, _, rfl, ?_⟩
  have hq : 0 < (if q < most - b then q else most - b) ∧ (if q < most - b then q else most - b) ≤ most - b := by
    split <;> omega
  generalize (if q < most - b then q else most - b) = z at hq
  refine ⟨R, z, rfl, o2.row, by omega, by omega, fun e3 H3 e30 e31 o3 => ?_⟩
  refine ⟨R, _, rfl, o3.row, (by show 0 < b + 1 + e3 - b; omega), (by show b + 1 + e3 - b < _; omega), fun a4 H4 a40 a41 o4 => ?_⟩
  refine ⟨R, 6, rfl, o4.row, by decide, by decide, fun n5 H5 n50 n51 o5 => ?_⟩
  refine ⟨rfl, _, rfl, ?_⟩
  have o05 := (((o1'.trans o2).trans o3).trans o4).trans o5
  refine ite2 (fun _ => ?_) (fun _ => ?_)
  · refine ⟨R, 20000, rfl, o5.row, by decide, by decide, fun n6 H6 n60 n61 o6 => ?_⟩
    refine ⟨(by decide : 3 ≤ sizeLine), fun p' hp' => ?_⟩
    have o6' := o6.new hp' (.lst [.int (n6 - 10000), .int (b + 1 + e3), .int (b - 1)])
    refine ⟨R, 3, rfl, o6'.row, by decide, by decide, fun n7 H7 n70 n71 o7 => ?_⟩
    have e7 : H7 p' = _ := o7.at upd_same (o6.row.ne hp')
    obtain ⟨a, ea, ha⟩ : ∃ a : Int, atI [V.int (n6 - 10000), V.int (b + 1 + e3), V.int (b - 1)] n7 = some (.int a) ∧ numOk a := by
      obtain rfl | rfl | rfl : n7 = 0 ∨ n7 = 1 ∨ n7 = 2 := by omega
      · exact ⟨_, rfl, by constructor <;> omega⟩
      · exact ⟨_, rfl, by constructor <;> omega⟩
      · exact ⟨_, rfl, by constructor <;> omega⟩
    refine .inl ⟨_, _, SqL.of e7, ea, ?_⟩
    refine ⟨R, rfl, o7.row, fun v H8 o8 ⟨r, er, hr8⟩ => ?_⟩
    subst er
    refine ⟨(by decide : 5 ≤ sizeLine), fun t ht => ?_⟩
    exact k _ _ b (b + 1 + e3) a r (((o05.trans o6').trans o7).trans (o8.new ht _)) ⟨t, rfl, upd_same⟩ ⟨by omega, by omega, by omega, ha, hr8⟩
  · refine ⟨R, rfl, o5.row, fun v H8 o8 ⟨r, er, hr8⟩ => ?_⟩
    subst er
    refine ⟨(by decide : 5 ≤ sizeLine), fun t ht => ?_⟩
    exact k _ _ b (b + 1 + e3) (b + a4) r (o05.trans (o8.new ht _)) ⟨t, rfl, upd_same⟩ ⟨by omega, by omega, by omega, ⟨by omega, by omega⟩, hr8⟩
end
end Tm
set_option Elab.async false
set_option linter.all false
set_option maxRecDepth 100000
set_option maxHeartbeats 1000000
namespace Tm
open PySem L2
def spOne (K : PySem.W.Frag) : Sp := fun vs H Q _ => ∃ (R : Addr) (most rows : Int), vs = [.ref R, .int most, .int rows] ∧ RowAt K H R ∧ 0 < most ∧ most ≤ 64 ∧ 0 ≤ rows ∧ rows ≤ 1000 ∧
  ∀ (v : V) (H' : Hp) (x : Wd), On K R H H' → IsW H' x v → WOk rows most x → Q v H'
abbrev s_law_one : Stmt := top 50
abbrev N_law_one : List Str := ["_law_row", "_law_most", "_law_rows", "_law_way", "_law_plain"]
abbrev P_law_one : List Str := ["_law_row", "_law_most", "_law_rows"]
theorem sc_law_one : FnScope N_law_one P_law_one (defScope s_law_one) := ⟨rfl, rfl, rfl, by decide +kernel, rfl, by decide +kernel, by decide +kernel⟩
section
variable {P : Program} {w : World} {K : PySem.W.Frag} {mg : Str → Option Value} {base : Heap}
theorem ok_one {f : Addr} {fd : FuncData} (F : Fun K "_law_one" "_law_one" s_law_one f fd) (T : Tx mg) (D_law_taken : Df P w K mg base 1 "_law_taken" P_law_taken [] (spTaken K))
    (D_law_number : Df P w K mg base 2 "_law_number" P_law_number [] (spDraw K fun v _ => isNum v)) (D_law_key : Df P w K mg base 3 "_law_key" P_law_key [] (spKey K)) : FnOk P w K mg base CX0 4 f fd P_law_one (spOne K) := by
  have sc := sc_law_one
  refine F.ok sc (fun vs H Q E h => ?_) (fun cdv A outer s H vs Q E hr h => ?_)
  · obtain ⟨R, m, n, rfl, _⟩ := h
    rfl
  obtain ⟨R, most, rows, rfl, r0, hm, hM, hr0, hr1, k⟩ := h
  have hu := hu_of hr
  have hu64 := hr.units
  refine ⟨_, ((pss_cons (ps_set (i := 3) sc.nd rfl (by first | exact Or.inl rfl | exact Or.inr rfl) (qcall D_law_taken (by first | exact hr | exact hr.mono (by omega)) (pa_cons (qv 0) (pa_cons pe_int pa_nil))))
  (pss_cons (ps_if (pt_cmpR oq_lt (qv 3) pe_int (nomark _))
  (pss_one (ps_ret (qcall D_law_number (by first | exact hr | exact hr.mono (by omega)) (pa_cons (qv 0) pa_nil))))
  pss_nil)
  (pss_cons (ps_set (i := 4) sc.nd rfl (by first | exact Or.inl rfl | exact Or.inr rfl) (pe_ifExp (pt_cmpR (oq_eq K hu64) (qcall D_law_taken (by first | exact hr | exact hr.mono (by omega)) (pa_cons (qv 0) (pa_cons pe_int pa_nil))) pe_int (nomark _)) (qcall D_law_number (by first | exact hr | exact hr.mono (by omega)) (pa_cons (qv 0) pa_nil)) (qcall D_law_key (by first | exact hr | exact hr.mono (by omega)) (pa_cons (qv 0) (pa_cons (qv 1) pa_nil)))))
  (pss_one (ps_ret (pe_ifExp (pt_cmpR (oq_eq K hu64) (qv 3) pe_int (nomark _)) (pe_tup (pa_cons pe_str (pa_cons (qcall D_law_taken (by first | exact hr | exact hr.mono (by omega)) (pa_cons (qv 0) (pa_cons (pe_op (oq_add K) (qv 2) pe_int) pa_nil))) (pa_cons (qv 4) pa_nil)))) (qcall D_law_key (by first | exact hr | exact hr.mono (by omega)) (pa_cons (qv 0) (pa_cons (qv 1) pa_nil))))))))) : PSs _ (_ :: _) _), ?_⟩
  refine ⟨R, 7, rfl, r0, by decide, by decide, fun b H1 b0 b1 o1 => ?_⟩
  refine ⟨_, rfl, ?_⟩
  refine ite2 (fun _ => ?_) (fun _ => ?_)
  · refine ⟨R, rfl, o1.row, fun v H2 o2 ⟨n, e, h1, h2⟩ => ?_⟩
    subst e
    exact k _ _ (.num n) (o1.trans o2) rfl ⟨h1, h2⟩
  · refine ⟨R, 4, rfl, o1.row, by decide, by decide, fun c H2 c0 c1 o2 => ?_⟩
    refine ⟨rfl, _, rfl, ?_⟩
    -- both ways: a plain word
    have fin : ∀ (v : V) (H3 : Hp) (x : Wd), On K R H H3 → IsW H3 x v → x.plain → WOk rows most x →
        tRet (tIf (tTest (tOp (rEqA K) (tV 3) (tC (V.int 6)))) (tTup (tCons (tC (V.str "gate")) (tCons (tCall (spTaken K) [] E0 (tCons (tV 0) (tCons (tOp (rAddA K) (tV 2) (tC (V.int 1))) tNil))) (tCons (tV 4) tNil))))
          (tCall (spKey K) [] E0 (tCons (tV 0) (tCons (tV 1) tNil)))) { nx := fun _ H' => Q .non H', rt := Q } [some (.ref R), some (.int most), some (.int rows), some (.int b), some v] H3 := by
      intro v H3 x o3 hx px wx
      refine ⟨rfl, _, rfl, ?_⟩
      refine ite2 (fun _ => ?_) (fun _ => ?_)
      · refine ⟨R, _, rfl, o3.row, (by show 0 < rows + 1; omega), (by show rows + 1 < _; omega), fun g H4 g0 g1 o4 => ?_⟩
        refine ⟨(by decide : 3 ≤ sizeLine), fun t ht => ?_⟩
        have s4 := same_new ht (.tup [.str "gate", .int g, v])
        refine k _ _ (.gate g x) (o3.trans (o4.new ht _)) ⟨t, v, rfl, upd_same, (hx.tups (On.tups o3.row o4)).tups (Same.tups s4)⟩ ⟨g0, by omega, px, wx⟩
      · refine ⟨R, most, rfl, o3.row, hm, hM, fun v2 H4 b2 e2 a2 r2 o4 i2 ok2 => ?_⟩
        exact k _ _ _ (o3.trans o4) i2 ok2
    refine ite2 (fun _ => ?_) (fun _ => ?_)
    · refine ⟨R, rfl, o2.row, fun v H3 o3 ⟨n, e, h1, h2⟩ => ?_⟩
      subst e
      exact fin _ _ (.num n) ((o1.trans o2).trans o3) rfl trivial ⟨h1, h2⟩
    · refine ⟨R, most, rfl, o2.row, hm, hM, fun v2 H4 b2 e2 a2 r2 o4 i2 ok2 => ?_⟩
      exact fin _ _ (.key b2 e2 a2 r2) ((o1.trans o2).trans o4) i2 trivial ok2
end
end Tm
set_option Elab.async false
set_option linter.all false
set_option maxRecDepth 100000
set_option maxHeartbeats 1000000
namespace Tm
open PySem L2
def spNearly (K : PySem.W.Frag) (n : Nat) : Sp := fun vs H Q _ => ∃ (R : Addr) (v0 : V) (w0 : Wd) (rows most : Int), vs = [.ref R, v0] ∧ RowAt K H R ∧ IsW H w0 v0 ∧ WOk rows most w0 ∧ w0.deep < n ∧ most ≤ 64 ∧
  ∀ (v : V) (H' : Hp) (x : Wd), On K R H H' → IsW H' x v → WOk rows most x → x.deep = w0.deep → Q v H'
abbrev s_law_nearly : Stmt := top 51
abbrev N_law_nearly : List Str := ["_law_row", "_law_word", "_law_way", "_law_begin", "_law_end", "_law_at", "_law_rights_here"]
abbrev P_law_nearly : List Str := ["_law_row", "_law_word"]
theorem sc_law_nearly : FnScope N_law_nearly P_law_nearly (defScope s_law_nearly) := ⟨rfl, rfl, rfl, by decide +kernel, rfl, by decide +kernel, by decide +kernel⟩
section
variable {P : Program} {w : World} {K : PySem.W.Frag} {mg : Str → Option Value} {base : Heap}
theorem nearly_none {f : Addr} {fd : FuncData} {m : Nat} : FnOk P w K mg base CX0 m f fd P_law_nearly (spNearly K 0) := by
  have no : ∀ vs H Q E, ¬ spNearly K 0 vs H Q E := fun vs H Q E h => by
    obtain ⟨R, v0, w0, rows, most, _, _, _, _, h1, _⟩ := h
    omega
  exact ⟨fun vs H Q E h => absurd h (no vs H Q E), fun A outer s H args us vs Q E _ _ _ _ h => absurd h (no vs H Q E)⟩
theorem ok_nearly {n : Nat} {f : Addr} {fd : FuncData} (F : Fun K "_law_nearly" "_law_nearly" s_law_nearly f fd) (T : Tx mg) (D_law_taken : Df P w K mg base 1 "_law_taken" P_law_taken [] (spTaken K))
    (D_law_nearly : Df P w K mg base (n + 1) "_law_nearly" P_law_nearly [] (spNearly K n)) : FnOk P w K mg base CX0 (n + 2) f fd P_law_nearly (spNearly K (n + 1)) := by
  have sc := sc_law_nearly
  refine F.ok sc (fun vs H Q E h => ?_) (fun cdv A outer s H vs Q E hr h => ?_)
  · obtain ⟨R, v0, w0, rows, most, rfl, _⟩ := h
    rfl
  obtain ⟨R, v0, w0, rows, most, rfl, r0, i0, ok0, hn, hM, k⟩ := h
  have hu := hu_of hr
  have hu64 := hr.units
  refine ⟨_, ((pss_cons (ps_if (pt_not (pt_val (qisi (isi_tuple _) T.isinstance T.tuple (qv 1))))
  (pss_one (ps_ret (pe_ifExp (pt_cmpR (oq_eq K hu64) (qcall D_law_taken (by first | exact hr | exact hr.mono (by omega)) (pa_cons (qv 0) (pa_cons pe_int pa_nil))) pe_int (nomark _)) (qv 1) (pe_callB (call_min2 rfl) (by rfl) T.min (by decide +kernel) (pa_cons pe_int (pa_cons (pe_op (oq_add K) (qv 1) pe_int) pa_nil))))))
  pss_nil)
  (pss_cons (ps_if (pt_cmpR (oq_eq K hu64) (pe_ix (iq K hu) (qv 1) pe_int (fun _ _ => rfl)) pe_str (nomark _))
  (pss_cons (ps_if (pt_val (qisi (isi_int _) T.isinstance T.int (pe_ix (iq K hu) (qv 1) pe_int (fun _ _ => rfl))))
  (pss_one (ps_ret (pe_tup (pa_cons pe_str (pa_cons (pe_callB (call_max2 rfl) (by rfl) T.max (by decide +kernel) (pa_cons pe_int (pa_cons (pe_op oq_sub (pe_ix (iq K hu) (qv 1) pe_int (fun _ _ => rfl)) pe_int) pa_nil))) (pa_cons (pe_ix (iq K hu) (qv 1) pe_int (fun _ _ => rfl)) pa_nil))))))
  pss_nil)
  (pss_one (ps_ret (pe_tup (pa_cons pe_str (pa_cons (pe_ix (iq K hu) (qv 1) pe_int (fun _ _ => rfl)) (pa_cons (qcall D_law_nearly (by first | exact hr | exact hr.mono (by omega)) (pa_cons (qv 0) (pa_cons (pe_ix (iq K hu) (qv 1) pe_int (fun _ _ => rfl)) pa_nil))) pa_nil)))))))
  pss_nil)
  (pss_cons (ps_asg (pe_slice (sq_tup K) (qv 1) (po_some pe_int) po_none) (pg_tup (by rfl) (pgs_cons (pg_name (i := 3) sc.nd rfl (by first | exact Or.inl rfl | exact Or.inr rfl)) (pgs_cons (pg_name (i := 4) sc.nd rfl (by first | exact Or.inl rfl | exact Or.inr rfl)) (pgs_cons (pg_name (i := 5) sc.nd rfl (by first | exact Or.inl rfl | exact Or.inr rfl)) (pgs_cons (pg_name (i := 6) sc.nd rfl (by first | exact Or.inl rfl | exact Or.inr rfl)) pgs_nil))))))
  (pss_cons (ps_set (i := 2) sc.nd rfl (by first | exact Or.inl rfl | exact Or.inr rfl) (qcall D_law_taken (by first | exact hr | exact hr.mono (by omega)) (pa_cons (qv 0) (pa_cons pe_int pa_nil))))
  (pss_cons (ps_if (pt_cmpR oq_lt (qv 2) pe_int (nomark _))
  (pss_one (ps_ret (pe_tup (pa_cons pe_str (pa_cons (qv 3) (pa_cons (qv 4) (pa_cons (pe_op (oq_add K) (qv 5) (pe_ix (iq K hu) (pe_lst (pa_cons pe_int (pa_cons (pe_op oq_sub pe_int pe_int) pa_nil))) (pe_callTy call_int1 (by rfl) T.int (by decide +kernel) (pa_cons (pe_cmpR oq_gt (qv 5) pe_int (nomark _)) pa_nil)) (fun _ _ => rfl))) (pa_cons (qv 6) pa_nil))))))))
  pss_nil)
  (pss_cons (ps_if (PW.pt (pw_and (pt_cmpR oq_gt (pe_op oq_sub (qv 4) (qv 3)) pe_int (nomark _)) (pw_and1 (pt_cmpR oq_lt (qv 2) pe_int (nomark _)))))
  (pss_one (ps_ret (pe_tup (pa_cons pe_str (pa_cons (pe_op oq_sub (pe_op (oq_add K) (qv 3) (qv 2)) pe_int) (pa_cons (pe_op (oq_add K) (pe_op oq_sub (qv 4) pe_int) (qv 2)) (pa_cons (qv 5) (pa_cons (qv 6) pa_nil))))))))
  pss_nil)
  (pss_one (ps_ret (pe_tup (pa_cons pe_str (pa_cons (qv 3) (pa_cons (qv 4) (pa_cons (qv 5) (pa_cons (pe_slice sl_str (qv 6) (po_some pe_int) po_none) pa_nil)))))))))))))) : PSs _ (_ :: _) _), ?_⟩
  cases w0 with
  | num z =>
    cases (show v0 = V.int z from i0)
    obtain ⟨z0, z1⟩ := ok0
    refine ⟨_, rfl, iteT ?_⟩
    refine ⟨R, 2, rfl, r0, by decide, by decide, fun b H1 b0 b1 o1 => ?_⟩
    refine ⟨rfl, _, rfl, ?_⟩
    refine ite2 (fun _ => ?_) (fun _ => ?_)
    · exact k _ _ (.num z) o1 rfl ⟨z0, z1⟩ rfl
    · refine ⟨_, _, rfl, ?_⟩
      exact k _ _ (.num _) o1 rfl (by constructor <;> (split <;> omega)) rfl
  | gate g x =>
    obtain ⟨p, u, e, hp, iu⟩ := i0
    subst e
    obtain ⟨g0, g1, px, okx⟩ := ok0
    have hT := SqT.of (K := K) hp
    refine .inl ⟨_, hp, _, rfl, iteF ?_⟩
    refine .inr (.inl ⟨_, _, hT, rfl, rfl, _, rfl, iteT' ggN ?_⟩)
    refine .inr (.inl ⟨_, _, hT, rfl, ?_⟩)
    cases x with
    | num z =>
      cases (show u = V.int z from iu)
      refine ⟨_, rfl, iteT ?_⟩
      refine .inr (.inl ⟨_, _, hT, rfl, ?_⟩)
      refine ⟨_, _, rfl, ?_⟩
      refine .inr (.inl ⟨_, _, hT, rfl, ?_⟩)
      refine ⟨(by decide : 3 ≤ sizeLine), fun t ht => ?_⟩
      exact k _ _ (.gate _ (.num z)) ((On.refl r0).new ht _) ⟨t, _, rfl, upd_same, rfl⟩ ⟨by split <;> omega, by split <;> omega, trivial, okx⟩ rfl
    | key b e a r =>
      obtain ⟨q, eq, hq⟩ := iu
      subst eq
      refine .inl ⟨_, hq, _, rfl, iteF ?_⟩
      refine .inr (.inl ⟨_, _, hT, rfl, ?_⟩)
      refine .inr (.inl ⟨_, _, hT, rfl, ?_⟩)
      refine ⟨R, _, .key b e a r, rows, most, rfl, r0, ⟨q, rfl, hq⟩, okx, (by show 0 < n; have : 1 < n + 1 := hn; omega), hM, fun v H1 y o1 iy oky dy => ?_⟩
      refine ⟨(by decide : 3 ≤ sizeLine), fun t ht => ?_⟩
      exact k _ _ (.gate g y) (o1.new ht _) ⟨t, _, rfl, upd_same, iy.tups (Same.tups (same_new ht _))⟩ ⟨g0, g1, Wd.deep_plain dy, oky⟩ (by show y.deep + 1 = _; rw [dy]; rfl)
    | gate _ _ => exact px.elim
  | key b e a r =>
    obtain ⟨p, ep, hp⟩ := i0
    subst ep
    obtain ⟨b0, b1, e1, ⟨a0, a1⟩, rr⟩ := ok0
    have hT := SqT.of (K := K) hp
    refine .inl ⟨_, hp, _, rfl, iteF ?_⟩
    refine .inr (.inl ⟨_, _, hT, rfl, rfl, _, rfl, iteF' kgN ?_⟩)
    refine ⟨_, rfl, p, _, rfl, hT, (fun z => absurd z.1 (by show ¬ (1 = 0); decide)), fun s1 hs1 => ?_⟩
    have o0 := (On.refl r0).new hs1 (.tup (cutV [V.str "key", .int b, .int e, .int a, .str r] (some 1) none))
    refine ⟨s1, _, rfl, SqT.of upd_same, rfl, _, _, rfl, _, _, rfl, _, _, rfl, _, _, rfl, rfl, ?_⟩
    refine ⟨R, 5, rfl, o0.row, by decide, by decide, fun m H1 m0 m1 o1 => ?_⟩
    have o1 := o0.trans o1
    refine ⟨_, rfl, ?_⟩
    refine ite2 (fun _ => ?_) (fun c1 => ?_)
    · refine ⟨(by decide : 2 ≤ sizeLine), fun t2 ht2 => ?_⟩
      have o2 := o1.new ht2 (.lst [.int 1, .int (0 - 1)])
      refine .inr ⟨_, rfl, ?_⟩
      obtain ⟨d, ed, hd⟩ : ∃ d : Int, atI [V.int 1, V.int (0 - 1)] (if decide (0 < a) = true then 1 else 0) = some (.int d) ∧ (-10000 ≤ a + d ∧ a + d ≤ 9999) := by
        by_cases ha : 0 < a
        · rw [decide_eq_true ha]
          exact ⟨_, rfl, by omega, by omega⟩
        · rw [decide_eq_false ha]
          exact ⟨_, rfl, by omega, by omega⟩
      refine .inl ⟨_, _, SqL.of upd_same, ed, ?_⟩
      refine ⟨(by decide : 5 ≤ sizeLine), fun t ht => ?_⟩
      exact k _ _ (.key b e (a + d) r) (o2.new ht _) ⟨t, rfl, upd_same⟩ ⟨b0, b1, e1, hd, rr⟩ rfl
    · have c1' : ¬ m < 2 := fun z => c1 (decide_eq_true z)
      have fin : ∀ t, H1 t = none → Q (.ref t) (upd H1 t (.tup [.str "key", .int b, .int e, .int a, .str (cutS r (some 1) none)])) := fun t ht =>
        k _ _ (.key b e a _) (o1.new ht _) ⟨t, rfl, upd_same⟩ ⟨b0, b1, e1, ⟨a0, a1⟩, rights_tail rr⟩ rfl
      have hrl : r.length ≤ sizeLine := Nat.le_trans (rights_len rr) (by decide)
      refine ⟨_, rfl, ?_⟩
      refine ite2 (fun c2 => ?_) (fun c2 => ?_)
      · have c2' : 1 < e - b := of_decide_eq_true c2
        refine ⟨_, rfl, ?_⟩
        refine ite2 (fun c3 => ?_) (fun c3 => ?_)
        · have c3' : m < 4 := of_decide_eq_true c3
          refine ⟨(by decide : 5 ≤ sizeLine), fun t ht => ?_⟩
          exact k _ _ (.key (b + m - 2) (e - 3 + m) a r) (o1.new ht _) ⟨t, rfl, upd_same⟩ ⟨by omega, by omega, by omega, ⟨a0, a1⟩, rr⟩ rfl
        · exact ⟨_, rfl, _, rfl, hrl, (by decide : 5 ≤ sizeLine), fin⟩
      · exact iteF ⟨_, rfl, _, rfl, hrl, (by decide : 5 ≤ sizeLine), fin⟩
end
end Tm
set_option Elab.async false
set_option linter.all false
set_option maxRecDepth 100000
set_option maxHeartbeats 2000000
set_option pp.maxSteps 600
set_option pp.deepTerms false
namespace Tm
open PySem L2
theorem lsr_plain {x y : Wd} (h : Lsr y x) (p : x.plain) : y.plain := by
  cases h with
  | refl => exact p
  | num => trivial
  | key => trivial
  | gate => exact p.elim
def spLesser (K : PySem.W.Frag) (n : Nat) : Sp := fun vs H Q _ => ∃ (R : Addr) (v0 : V) (w0 : Wd) (rows most : Int), vs = [.ref R, v0] ∧ RowAt K H R ∧ IsW H w0 v0 ∧ WOk rows most w0 ∧ w0.deep < n ∧ most ≤ 64 ∧
  ∀ (v : V) (H' : Hp) (x : Wd), On K R H H' → IsW H' x v → WOk rows most x → Lsr x w0 → Q v H'
abbrev s_law_lesser : Stmt := top 44
abbrev N_law_lesser : List Str := ["_law_row", "_law_word", "_law_begin", "_law_end", "_law_rights_here", "_law_sign"]
abbrev P_law_lesser : List Str := ["_law_row", "_law_word"]
theorem sc_law_lesser : FnScope N_law_lesser P_law_lesser (defScope s_law_lesser) := ⟨rfl, rfl, rfl, by decide +kernel, rfl, by decide +kernel, by decide +kernel⟩
section
variable {P : Program} {w : World} {K : PySem.W.Frag} {mg : Str → Option Value} {base : Heap}
theorem lesser_none {f : Addr} {fd : FuncData} {m : Nat} : FnOk P w K mg base CX0 m f fd P_law_lesser (spLesser K 0) := by
  have no : ∀ vs H Q E, ¬ spLesser K 0 vs H Q E := fun vs H Q E h => by
    obtain ⟨R, v0, w0, rows, most, _, _, _, _, h1, _⟩ := h
    omega
  exact ⟨fun vs H Q E h => absurd h (no vs H Q E), fun A outer s H args us vs Q E _ _ _ _ h => absurd h (no vs H Q E)⟩
theorem ok_lesser {n : Nat} {f : Addr} {fd : FuncData} (F : Fun K "_law_lesser" "_law_lesser" s_law_lesser f fd) (T : Tx mg) (D_law_taken : Df P w K mg base 1 "_law_taken" P_law_taken [] (spTaken K)) (D_law_number : Df P w K mg base 2 "_law_number" P_law_number [] (spDraw K fun v _ => isNum v))
    (D_law_lesser : Df P w K mg base (n + 2) "_law_lesser" P_law_lesser [] (spLesser K n)) : FnOk P w K mg base CX0 (n + 3) f fd P_law_lesser (spLesser K (n + 1)) := by
  have sc := sc_law_lesser
  refine F.ok sc (fun vs H Q E h => ?_) (fun cdv A outer s H vs Q E hr h => ?_)
  · obtain ⟨R, v0, w0, rows, most, rfl, _⟩ := h
    rfl
  obtain ⟨R, v0, w0, rows, most, rfl, r0, i0, ok0, hn, hM, k⟩ := h
  have hu := hu_of hr
  have hu64 := hr.units
  refine ⟨_, ((pss_cons (ps_if (PW.pt (pw_or (pt_val (qisi (isi_int _) T.isinstance T.int (qv 1))) (pw_or1 (pt_cmpR (oq_eq K hu64) (qcall D_law_taken (by first | exact hr | exact hr.mono (by omega)) (pa_cons (qv 0) (pa_cons pe_int pa_nil))) pe_int (nomark _)))))
  (pss_one (ps_ret (pe_ifExp (pt_cmpR oq_gt (qcall D_law_taken (by first | exact hr | exact hr.mono (by omega)) (pa_cons (qv 0) (pa_cons pe_int pa_nil))) pe_int (nomark _)) (qv 1) (qcall D_law_number (by first | exact hr | exact hr.mono (by omega)) (pa_cons (qv 0) pa_nil)))))
  pss_nil)
  (pss_cons (ps_if (pt_cmpR (oq_eq K hu64) (pe_ix (iq K hu) (qv 1) pe_int (fun _ _ => rfl)) pe_str (nomark _))
  (pss_one (ps_ret (pe_tup (pa_cons pe_str (pa_cons (pe_ix (iq K hu) (qv 1) pe_int (fun _ _ => rfl)) (pa_cons (qcall D_law_lesser (by first | exact hr | exact hr.mono (by omega)) (pa_cons (qv 0) (pa_cons (pe_ix (iq K hu) (qv 1) pe_int (fun _ _ => rfl)) pa_nil))) pa_nil))))))
  pss_nil)
  (pss_cons (ps_set (i := 2) sc.nd rfl (by first | exact Or.inl rfl | exact Or.inr rfl) (pe_op (oq_add K) (pe_ix (iq K hu) (qv 1) pe_int (fun _ _ => rfl)) (qcall D_law_taken (by first | exact hr | exact hr.mono (by omega)) (pa_cons (qv 0) (pa_cons (pe_op oq_sub (pe_ix (iq K hu) (qv 1) pe_int (fun _ _ => rfl)) (pe_ix (iq K hu) (qv 1) pe_int (fun _ _ => rfl))) pa_nil)))))
  (pss_cons (ps_set (i := 3) sc.nd rfl (by first | exact Or.inl rfl | exact Or.inr rfl) (pe_op (oq_add K) (pe_op (oq_add K) (qv 2) pe_int) (qcall D_law_taken (by first | exact hr | exact hr.mono (by omega)) (pa_cons (qv 0) (pa_cons (pe_op oq_sub (pe_ix (iq K hu) (qv 1) pe_int (fun _ _ => rfl)) (qv 2)) pa_nil)))))
  (pss_cons (ps_set (i := 4) sc.nd rfl (by first | exact Or.inl rfl | exact Or.inr rfl) (pe_join pe_str (pe_lc (own := [("_law_sign", 5)]) (g := gName 5) (by rfl) sc.nd (pi_str (pe_ix (iq K hu) (qv 1) pe_int (fun _ _ => rfl))) (blkOk_by (own := [("_law_sign", 5)]) (N := N_law_lesser) (sc := defScope s_law_lesser) (by decide +kernel)) (fun _ _ _ _ _ => (pg_name (i := 5) sc.nd rfl (by first | exact Or.inl rfl | exact Or.inr rfl))) (fun _ _ _ _ _ => (pts_one (pt_cmpR oq_gt (qcall D_law_taken (by first | exact hr | exact hr.mono (by omega)) (pa_cons (qv 0) (pa_cons pe_int pa_nil))) pe_int (nomark _)))) (fun _ _ _ _ _ => (qv 5)))))
  (pss_one (ps_ret (pe_tup (pa_cons pe_str (pa_cons (qv 2) (pa_cons (qv 3) (pa_cons (pe_ix (iq K hu) (pe_lst (pa_cons (pe_ix (iq K hu) (qv 1) pe_int (fun _ _ => rfl)) (pa_cons (qcall D_law_number (by first | exact hr | exact hr.mono (by omega)) (pa_cons (qv 0) pa_nil)) pa_nil))) (qcall D_law_taken (by first | exact hr | exact hr.mono (by omega)) (pa_cons (qv 0) (pa_cons pe_int pa_nil))) (fun _ _ => rfl)) (pa_cons (qv 4) pa_nil))))))))))))) : PSs _ (_ :: _) _), ?_⟩
  cases w0 with
  | num z =>
    cases (show v0 = V.int z from i0)
    refine ⟨_, rfl, iteT ?_⟩
    refine ⟨R, 4, rfl, r0, by decide, by decide, fun b H1 b0 b1 o1 => ?_⟩
    refine ⟨_, rfl, ?_⟩
    refine ite2 (fun _ => ?_) (fun _ => ?_)
    · exact k _ _ (.num z) o1 rfl ok0 (.refl _)
    · refine ⟨R, rfl, o1.row, fun v H2 o2 hv => ?_⟩
      obtain ⟨m, rfl, m0, m1⟩ := hv
      exact k _ _ (.num m) (o1.trans o2) rfl ⟨m0, m1⟩ (.num _ _)
  | gate g x =>
    obtain ⟨p, u, e, hp, iu⟩ := i0
    subst e
    obtain ⟨g0, g1, px, okx⟩ := ok0
    refine .inl ⟨_, hp, _, rfl, iteF ?_⟩
    refine ⟨R, 3, rfl, r0, by decide, by decide, fun b H1 b0 b1 o1 => ?_⟩
    have hp1 := (On.tups r0 o1) _ _ hp
    have iu1 := iu.tups (On.tups r0 o1)
    have hT := SqT.of (K := K) hp1
    refine ⟨rfl, _, rfl, ?_⟩
    refine ite2 (fun _ => ?_) (fun _ => ?_)
    · refine ⟨R, 4, rfl, o1.row, by decide, by decide, fun b2 H2 b20 b21 o2 => ?_⟩
      have o2' := o1.trans o2
      refine ⟨_, rfl, ?_⟩
      refine ite2 (fun _ => ?_) (fun _ => ?_)
      · exact k _ _ (.gate g x) o2' (IsW.tups (On.tups o1.row o2) (w := .gate g x) ⟨p, u, rfl, hp1, iu1⟩) ⟨g0, g1, px, okx⟩ (.refl _)
      · refine ⟨R, rfl, o2'.row, fun v H3 o3 hv => ?_⟩
        obtain ⟨m, rfl, m0, m1⟩ := hv
        exact k _ _ (.num m) (o2'.trans o3) rfl ⟨m0, m1⟩ (.num _ _)
    · refine .inr (.inl ⟨_, _, hT, rfl, rfl, _, rfl, iteT' ggN ?_⟩)
      refine .inr (.inl ⟨_, _, hT, rfl, ?_⟩)
      refine .inr (.inl ⟨_, _, hT, rfl, ?_⟩)
      refine ⟨R, u, x, rows, most, rfl, o1.row, iu1, okx, (by have : x.deep + 1 < n + 1 := hn; omega), hM, fun v H2 y o2 iy oky ly => ?_⟩
      refine ⟨(by decide : 3 ≤ sizeLine), fun t ht => ?_⟩
      exact k _ _ (.gate g y) ((o1.trans o2).new ht _) ⟨t, _, rfl, upd_same, iy.tups (Same.tups (same_new ht _))⟩ ⟨g0, g1, lsr_plain ly px, oky⟩ (.gate ly)
  | key b e a r =>
    obtain ⟨p, ep, hp⟩ := i0
    subst ep
    obtain ⟨b0, b1, e1, ⟨a0, a1⟩, rr⟩ := ok0
    refine .inl ⟨_, hp, _, rfl, iteF ?_⟩
    refine ⟨R, 3, rfl, r0, by decide, by decide, fun c H1 c0 c1 o1 => ?_⟩
    have hp1 := (On.tups r0 o1) _ _ hp
    have hT := SqT.of (K := K) hp1
    refine ⟨rfl, _, rfl, ?_⟩
    refine ite2 (fun _ => ?_) (fun _ => ?_)
    · refine ⟨R, 4, rfl, o1.row, by decide, by decide, fun b2 H2 b20 b21 o2 => ?_⟩
      have o2' := o1.trans o2
      refine ⟨_, rfl, ?_⟩
      refine ite2 (fun _ => ?_) (fun _ => ?_)
      · exact k _ _ (.key b e a r) o2' ⟨p, rfl, (On.tups o1.row o2) _ _ hp1⟩ ⟨b0, b1, e1, ⟨a0, a1⟩, rr⟩ (.refl _)
      · refine ⟨R, rfl, o2'.row, fun v H3 o3 hv => ?_⟩
        obtain ⟨m, rfl, m0, m1⟩ := hv
        exact k _ _ (.num m) (o2'.trans o3) rfl ⟨m0, m1⟩ (.num _ _)
    · refine .inr (.inl ⟨_, _, hT, rfl, rfl, _, rfl, iteF' kgN ?_⟩)
      refine .inr (.inl ⟨_, _, hT, rfl, ?_⟩)
      refine .inr (.inl ⟨_, _, hT, rfl, ?_⟩)
      refine .inr (.inl ⟨_, _, hT, rfl, ?_⟩)
      refine ⟨R, e - b, rfl, o1.row, by omega, by omega, fun m H2 m0 m1 o2 => ?_⟩
      have hp2 := (On.tups o1.row o2) _ _ hp1
      have hT := SqT.of (K := K) hp2
      refine .inr (.inl ⟨_, _, hT, rfl, ?_⟩)
      refine ⟨R, e - (b + m), rfl, o2.row, by omega, by omega, fun q H3 q0 q1 o3 => ?_⟩
      have hp3 := (On.tups o2.row o3) _ _ hp2
      have hT := SqT.of (K := K) hp3
      have o3' := (o1.trans o2).trans o3
      have hrl : r.cps.toList.length ≤ 4 := by
        have := rights_len rr
        rw [Array.length_toList]
        exact this
      refine ⟨⟨_, rfl⟩, .inr (.inl ⟨_, _, hT, rfl, _, rfl, fun D hD => ?_⟩)⟩
      have nD := o3.row.ne hD
      refine lc_by (n := r.cps.size) (fun i H4 => On K R H3 H4 ∧ ∃ cs : List Nat, H4 D = some (.lst (cs.map fun c => V.str ⟨#[c]⟩)) ∧ cs.Sublist (r.cps.toList.take i)) ⟨(On.refl o3.row).new hD _, [], upd_same, List.Sublist.refl _⟩ (fun i H4 hi _ => hi) (fun H4 _ => Nat.le_refl _) ?_ ?_
      · rintro i H4 x H4' hi ⟨o4, cs, hc, hsub⟩ ⟨rfl, c, hx, rfl⟩
        refine ⟨rfl, ?_⟩
        refine ⟨R, 4, rfl, o4.row, by decide, by decide, fun n3 H5 h30 h31 o5 => ?_⟩
        have hc5 := o5.at hc nD
        have hx' : r.cps.toList[i]? = some c := by rw [Array.getElem?_toList]; exact hx
        have ht : r.cps.toList.take (i + 1) = r.cps.toList.take i ++ [c] := by
          rw [List.take_succ, hx']
          rfl
        have hl : cs.length ≤ 4 := by
          have a1 := hsub.length_le
          have a2 := List.length_take_le' i r.cps.toList
          omega
        refine ⟨_, rfl, ite2 (fun _ => ?_) (fun _ => ?_)⟩
        · refine ⟨_, hc5, small1000 (by rw [List.length_map]; omega), (o4.trans o5).fill hD nD (soft_lst hc5) _, cs ++ [c], ?_, ?_⟩
          · rw [upd_same, List.map_append]
            rfl
          · rw [ht]
            exact List.Sublist.append hsub (List.Sublist.refl _)
        · exact ⟨o4.trans o5, cs, hc5, by rw [ht]; exact hsub.trans (List.sublist_append_left _ _)⟩
      · rintro H4 ⟨o4, cs, hc, hsub⟩
        rw [show r.cps.size = r.cps.toList.length from (Array.length_toList ..).symm, List.take_length] at hsub
        have o4' := o3'.trans o4
        have hp4 := (On.tups o3.row o4) _ _ hp3
        have hT := SqT.of (K := K) hp4
        refine ⟨_, D, cs.map fun c => (⟨#[c]⟩ : Str), rfl, rfl, .inl (SqL.of (by rw [List.map_map]; exact hc)), ?_, ?_⟩
        · have e : ((cs.map fun c => (⟨#[c]⟩ : Str)).map (·.length)).sum = cs.length := by
            clear hc hsub
            induction cs with
            | nil => rfl
            | cons c cs ih =>
              rw [List.map_cons, List.map_cons, List.sum_cons, ih, List.length_cons]
              show 1 + cs.length = cs.length + 1
              omega
          have := hsub.length_le
          rw [e, List.length_map, show (Str.ofString "").length = 0 from rfl, Nat.mul_zero]
          exact Nat.le_trans (show cs.length + 0 ≤ 4 by omega) (by decide)
        have ej : (Txt.join (Str.ofString "") (cs.map fun c => (⟨#[c]⟩ : Str))).cps.toList = cs := join_signs cs
        generalize Txt.join (Str.ofString "") (cs.map fun c => (⟨#[c]⟩ : Str)) = r' at ej ⊢
        refine .inr (.inl ⟨_, _, hT, rfl, ?_⟩)
        refine ⟨R, rfl, o4.row, fun v H5 o5 hv => ?_⟩
        obtain ⟨y, rfl, y0, y1⟩ := hv
        refine ⟨(by decide : 2 ≤ sizeLine), fun l hl => ?_⟩
        have lR := o5.row.ne hl
        have o6 := o5.new hl (.lst [.int a, .int y])
        have el : upd H5 l (.lst [.int a, .int y]) l = some (.lst [.int a, .int y]) := upd_same
        generalize upd H5 l (.lst [.int a, .int y]) = H6 at o6 el ⊢
        refine ⟨R, 2, rfl, o6.row, by decide, by decide, fun n2 H7 n20 n21 o7 => ?_⟩
        obtain ⟨z, ez, z0, z1⟩ : ∃ z : Int, atI [V.int a, .int y] n2 = some (.int z) ∧ -10000 ≤ z ∧ z ≤ 9999 := by
          obtain rfl | rfl : n2 = 0 ∨ n2 = 1 := by omega
          · exact ⟨a, rfl, a0, a1⟩
          · exact ⟨y, rfl, y0, y1⟩
        refine .inl ⟨_, _, SqL.of (o7.at el lR), ez, ?_⟩
        refine ⟨(by decide : 5 ≤ sizeLine), fun t ht => ?_⟩
        refine k _ _ (.key (b + m) (b + m + 1 + q) z r') (((o4'.trans o6).trans o7).new ht _) ⟨t, rfl, upd_same⟩ ⟨by omega, by omega, by omega, ⟨z0, z1⟩, ?_⟩ (.key (by omega) (by omega) fun l hl' => ?_)
        · unfold RightsOk
          rw [ej]
          exact hsub.trans rr
        · unfold hasR at hl' ⊢
          rw [ej] at hl'
          exact decide_eq_true (hsub.subset (of_decide_eq_true hl'))
end
end Tm
set_option Elab.async false
set_option linter.all false
set_option maxRecDepth 100000
set_option maxHeartbeats 1000000
namespace L2
open PySem PySem.Spec PyProof.Rows
theorem cr_range1 {X : Cx} : CallR X (.type "range") (fun xs H Q => ∃ j : Int, xs = [.int j] ∧ ∀ p, H p = none → Q (.ref p) (upd H p (.rng 0 j))) := by
  intro pins s σ H xs us Q I r h
  obtain ⟨j, rfl, h⟩ := h
  cases r with
  | cons r1 r2 =>
    cases r2
    obtain ⟨t, rfl⟩ := r1
    refine call_range_1 ⟨.ref s.heap.objs.size, _, I.laid (t' := s.toks + 1 + 1) (o := .rng 0 j) (fun b u e => Heap.get?_push_of_some _ e) (Nat.le_refl _) ⟨_, _, _, Heap.get?_push_size _ rfl⟩, rfl, h _ (I.hok.fresh (Nat.le_refl _))⟩
theorem seqIx_ok {i : Int} {n : Nat} (h0 : 0 ≤ i) (h1 : i < n) : seqIndex? i n = some i.toNat := by
  unfold seqIndex?
  simp only [if_neg (show ¬ i < 0 by omega)]
  rw [if_pos (by rw [decide_eq_true h0, decide_eq_true h1]; rfl)]
end L2
set_option Elab.async false
set_option linter.all false
set_option maxRecDepth 100000
set_option maxHeartbeats 1000000
namespace Tm
open PySem L2
def spState (K : PySem.W.Frag) : Sp := fun vs H Q _ => ∃ (R : Addr) (rows : Int), vs = [.ref R, .int rows] ∧ RowAt K H R ∧ 0 ≤ rows ∧ rows ≤ 1000 ∧
  ∀ (t c b : Addr) (rooms : Int) (cs bs : List Wd) (H' : Hp), On K R H H' → H' t = some (.tup [.int rooms, .ref c, .ref b]) → 0 ≤ rooms → rooms ≤ 12 → Wds rows (64 - 4 * rooms) H' c cs → Wds rows (64 - 4 * rooms) H' b bs →
    (cs.length : Int) = 64 - 4 * rooms → bs.length = 8 → H c = none → H b = none → c ≠ b → c ≠ R → b ≠ R → Q (.ref t) H'
abbrev s_law_state : Stmt := top 49
abbrev N_law_state : List Str := ["_law_row", "_law_rows", "_law_rooms", "_law_most", "_law_few", "_law_cells", "_law_boxes", "_law_turn", "_law_k"]
abbrev P_law_state : List Str := ["_law_row", "_law_rows"]
theorem sc_law_state : FnScope N_law_state P_law_state (defScope s_law_state) := ⟨rfl, rfl, rfl, by decide +kernel, rfl, by decide +kernel, by decide +kernel⟩
section
variable {P : Program} {w : World} {K : PySem.W.Frag} {mg : Str → Option Value} {base : Heap}
theorem ok_state {f : Addr} {fd : FuncData} (F : Fun K "_law_state" "_law_state" s_law_state f fd) (T : Tx mg) (D_law_taken : Df P w K mg base 1 "_law_taken" P_law_taken [] (spTaken K))
    (D_law_one : Df P w K mg base 4 "_law_one" P_law_one [] (spOne K)) (D_law_nearly : Df P w K mg base 3 "_law_nearly" P_law_nearly [] (spNearly K 2)) : FnOk P w K mg base CX0 5 f fd P_law_state (spState K) := by
  have sc := sc_law_state
  refine F.ok sc (fun vs H Q E h => ?_) (fun cdv A outer s H vs Q E hr h => ?_)
  · obtain ⟨R, rows, rfl, _⟩ := h
    rfl
  obtain ⟨R, rows, rfl, r0, hr0, hr1, k⟩ := h
  have hu := hu_of hr
  have hu64 := hr.units
  refine ⟨_, ((pss_cons (ps_set (i := 2) sc.nd rfl (by first | exact Or.inl rfl | exact Or.inr rfl) (pe_ix (iq K hu) (pe_lst (pa_cons pe_int (pa_cons pe_int (pa_cons pe_int (pa_cons pe_int (pa_cons (qcall D_law_taken (by first | exact hr | exact hr.mono (by omega)) (pa_cons (qv 0) (pa_cons pe_int pa_nil))) pa_nil)))))) (qcall D_law_taken (by first | exact hr | exact hr.mono (by omega)) (pa_cons (qv 0) (pa_cons pe_int pa_nil))) (fun _ _ => rfl)))
  (pss_cons (ps_set (i := 3) sc.nd rfl (by first | exact Or.inl rfl | exact Or.inr rfl) (pe_op oq_sub pe_int (pe_op oq_mul pe_int (qv 2))))
  (pss_cons (ps_set (i := 4) sc.nd rfl (by first | exact Or.inl rfl | exact Or.inr rfl) (pe_ix (iq K hu) (pe_lst (pa_lits [.int 2, .int 5, .int 9] (by decide +kernel))) (qcall D_law_taken (by first | exact hr | exact hr.mono (by omega)) (pa_cons (qv 0) (pa_cons pe_int pa_nil))) (fun _ _ => rfl)))
  (pss_cons (ps_setLc (i := 5) (own := [("_law_k", 8)]) (g := gName 8) (by rfl) sc.nd rfl rfl (sw_true rfl rfl rfl (by decide +kernel)) (pi_range1 (by rfl) T.range (pa_cons (qv 3) pa_nil)) (blkOk_by (own := [("_law_k", 8)]) (N := N_law_state) (sc := defScope s_law_state) (by decide +kernel)) (fun _ _ _ _ _ => (pg_name (i := 8) sc.nd rfl (by first | exact Or.inl rfl | exact Or.inr rfl))) (fun _ _ _ _ _ => pts_nil) (fun _ _ _ _ _ => (pe_ifExp (pt_cmpR (oq_eq K hu64) (qcall D_law_taken (by first | exact hr | exact hr.mono (by omega)) (pa_cons (qv 0) (pa_cons (qv 4) pa_nil))) pe_int (nomark _)) (qcall D_law_one (by first | exact hr | exact hr.mono (by omega)) (pa_cons (qv 0) (pa_cons (qv 3) (pa_cons (qv 1) pa_nil)))) (qcall D_law_taken (by first | exact hr | exact hr.mono (by omega)) (pa_cons (qv 0) (pa_cons pe_int pa_nil))))))
  (pss_cons (ps_setLc (i := 6) (own := [("_law_k", 8)]) (g := gName 8) (by rfl) sc.nd rfl rfl (sw_true rfl rfl rfl (by decide +kernel)) (pi_range1 (by rfl) T.range (pa_cons pe_int pa_nil)) (blkOk_by (own := [("_law_k", 8)]) (N := N_law_state) (sc := defScope s_law_state) (by decide +kernel)) (fun _ _ _ _ _ => (pg_name (i := 8) sc.nd rfl (by first | exact Or.inl rfl | exact Or.inr rfl))) (fun _ _ _ _ _ => pts_nil) (fun _ _ _ _ _ => (qcall D_law_one (by first | exact hr | exact hr.mono (by omega)) (pa_cons (qv 0) (pa_cons (qv 3) (pa_cons (qv 1) pa_nil))))))
  (pss_cons (ps_for PassesOwn.never rfl (pi_range1 (by rfl) T.range (pa_cons (qcall D_law_taken (by first | exact hr | exact hr.mono (by omega)) (pa_cons (qv 0) (pa_cons pe_int pa_nil))) pa_nil)) (pg_name (i := 7) sc.nd rfl (by first | exact Or.inl rfl | exact Or.inr rfl))
  (pss_cons (ps_set (i := 8) sc.nd rfl (by first | exact Or.inl rfl | exact Or.inr rfl) (qcall D_law_taken (by first | exact hr | exact hr.mono (by omega)) (pa_cons (qv 0) (pa_cons pe_int pa_nil))))
  (pss_one (ps_asg (qcall D_law_nearly (by first | exact hr | exact hr.mono (by omega)) (pa_cons (qv 0) (pa_cons (pe_ix (iq K hu) (qv 6) (qv 8) (fun _ _ => rfl)) pa_nil))) (pg_sub (qv 6) (qcall D_law_taken (by first | exact hr | exact hr.mono (by omega)) (pa_cons (qv 0) (pa_cons pe_int pa_nil))) (sq hu))))))
  (pss_one (ps_ret (pe_tup (pa_cons (qv 2) (pa_cons (qv 5) (pa_cons (qv 6) pa_nil)))))))))))) : PSs _ (_ :: _) _), ?_⟩
  refine ⟨R, 13, rfl, r0, by decide, by decide, fun q1 H1 q10 q11 o1 => ?_⟩
  refine ⟨(by decide : 5 ≤ sizeLine), fun p hp => ?_⟩
  have o1' := o1.new hp (.lst [.int 0, .int 1, .int 2, .int 12, .int q1])
  refine ⟨R, 5, rfl, o1'.row, by decide, by decide, fun q2 H2 q20 q21 o2 => ?_⟩
  have e2 : H2 p = _ := o2.at upd_same (o1.row.ne hp)
  obtain ⟨rooms, er, hrooms⟩ : ∃ q : Int, atI [V.int 0, .int 1, .int 2, .int 12, .int q1] q2 = some (.int q) ∧ 0 ≤ q ∧ q ≤ 12 := by
    obtain rfl | rfl | rfl | rfl | rfl : q2 = 0 ∨ q2 = 1 ∨ q2 = 2 ∨ q2 = 3 ∨ q2 = 4 := by omega
    · exact ⟨_, rfl, by omega, by omega⟩
    · exact ⟨_, rfl, by omega, by omega⟩
    · exact ⟨_, rfl, by omega, by omega⟩
    · exact ⟨_, rfl, by omega, by omega⟩
    · exact ⟨_, rfl, by omega, by omega⟩
  refine .inl ⟨_, _, SqL.of e2, er, ?_⟩
  refine ⟨.inl ⟨by decide, by decide⟩, ?_⟩
  refine ⟨(by decide : 3 ≤ sizeLine), fun p' hp' => ?_⟩
  have o2' := o2.new hp' (.lst [.int 2, .int 5, .int 9])
  refine ⟨R, 3, rfl, o2'.row, by decide, by decide, fun q3 H3 q30 q31 o3 => ?_⟩
  have e3 : H3 p' = _ := o3.at upd_same (o2.row.ne hp')
  obtain ⟨few, ef, hfew⟩ : ∃ q : Int, atI [V.int 2, .int 5, .int 9] q3 = some (.int q) ∧ 0 < q ∧ q < 10 := by
    obtain rfl | rfl | rfl : q3 = 0 ∨ q3 = 1 ∨ q3 = 2 := by omega
    · exact ⟨_, rfl, by omega, by omega⟩
    · exact ⟨_, rfl, by omega, by omega⟩
    · exact ⟨_, rfl, by omega, by omega⟩
  refine .inl ⟨_, _, SqL.of e3, ef, ?_⟩
  have o3 := (o1'.trans o2').trans o3
  -- cells
  refine ⟨_, rfl, (by show -(2 ^ 62) ≤ 64 - 4 * rooms; omega), (by show 64 - 4 * rooms < 2 ^ 62; omega), fun D hD => ?_⟩
  have nD := o3.row.ne hD
  have hD0 : H D = none := by
    cases e : H D with
    | none => rfl
    | some o => rw [o3.at e nD] at hD; cases hD
  refine lc_range (lo := 0) (n := (64 - 4 * rooms).toNat) (fun i H4 => On K R H3 H4 ∧ ∃ ws, Wds rows (64 - 4 * rooms) H4 D ws ∧ ws.length = i) ⟨(On.refl o3.row).new hD _, [], Wds.nil upd_same, rfl⟩ ?_ ?_
  · rintro i H4 hi ⟨o4, ws, W, hl⟩
    refine ⟨rfl, ?_⟩
    refine ⟨R, few, rfl, o4.row, by omega, by omega, fun q5 H5 q50 q51 o5 => ?_⟩
    have W5 := W.on o4.row o5 nD
    have fin : ∀ (v : V) (H6 : Hp) (x : Wd), On K R H5 H6 → IsW H6 x v → WOk rows (64 - 4 * rooms) x → ∃ acc, H6 D = some (.lst acc) ∧ acc.length < sizeLine ∧ (On K R H3 (upd H6 D (.lst (acc ++ [v]))) ∧ ∃ ws, Wds rows (64 - 4 * rooms) (upd H6 D (.lst (acc ++ [v]))) D ws ∧ ws.length = i + 1) := by
      intro v H6 x o6 ix okx
      have W6 := W5.on o5.row o6 nD
      obtain ⟨vs, ev, lv⟩ := W6.lst
      exact ⟨vs, ev, small1000 (by omega), ((o4.trans o5).trans o6).fill hD nD W6.soft _, _, W6.add ev ix okx, by rw [List.length_append, List.length_singleton, hl]⟩
    refine ⟨rfl, _, rfl, ?_⟩
    refine ite2 (fun _ => ?_) (fun _ => ?_)
    · exact ⟨R, 64 - 4 * rooms, rows, rfl, o5.row, by omega, by omega, hr0, hr1, fun v H6 x o6 ix okx => fin v H6 x o6 ix okx⟩
    · exact ⟨R, 9, rfl, o5.row, by decide, by decide, fun q6 H6 q60 q61 o6 => fin _ H6 (.num q6) o6 rfl ⟨by omega, by omega⟩⟩
  rintro H4 ⟨o4, cs, W4, hl4⟩
  have o04 := o3.trans o4
  -- boxes
  refine ⟨8, rfl, by decide, by decide, fun B hB => ?_⟩
  have nB := o4.row.ne hB
  have nDB : D ≠ B := by
    obtain ⟨vs, ev, _⟩ := W4.lst
    exact ne_of_none ev hB
  have hB0 : H B = none := by
    cases e : H B with
    | none => rfl
    | some o => rw [o04.at e nB] at hB; cases hB
  refine lc_range (lo := 0) (n := 8) (fun i H5 => On K R H4 H5 ∧ ∃ ws, Wds rows (64 - 4 * rooms) H5 B ws ∧ ws.length = i) ⟨(On.refl o4.row).new hB _, [], Wds.nil upd_same, rfl⟩ ?_ ?_
  · rintro i H5 hi ⟨o5, ws, W, hl⟩
    refine ⟨rfl, ?_⟩
    refine ⟨R, 64 - 4 * rooms, rows, rfl, o5.row, by omega, by omega, hr0, hr1, fun v H6 x o6 ix okx => ?_⟩
    have W6 := W.on o5.row o6 nB
    obtain ⟨vs, ev, lv⟩ := W6.lst
    exact ⟨vs, ev, small1000 (by omega), (o5.trans o6).fill hB nB W6.soft _, _, W6.add ev ix okx, by rw [List.length_append, List.length_singleton, hl]⟩
  rintro H5 ⟨o5, bs, W5, hl5⟩
  have C5 := W4.on o4.row o5 nD
  have o05 := o04.trans o5
  -- nearly
  refine ⟨R, 4, rfl, o5.row, by decide, by decide, fun q6 H6 q60 q61 o6 => ?_⟩
  refine ⟨_, rfl, by omega, by omega, for_range (lo := 0) (n := q6.toNat) (fun i σ H7 => ∃ x y, σ = [some (.ref R), some (.int rows), some (.int rooms), some (.int (64 - 4 * rooms)), some (.int few), some (.ref D), some (.ref B), x, y] ∧ On K R H H7 ∧ Wds rows (64 - 4 * rooms) H7 D cs ∧ ∃ bs, Wds rows (64 - 4 * rooms) H7 B bs ∧ bs.length = 8)
    ⟨_, _, rfl, o05.trans o6, C5.on o5.row o6 nD, bs, W5.on o5.row o6 nB, hl5⟩ ?_ ?_⟩
  · rintro i σ H7 hi ⟨x, y, rfl, o7, C7, bs7, W7, hl7⟩
    refine ⟨R, 8, rfl, o7.row, by decide, by decide, fun q8 H8 q80 q81 o8 => ?_⟩
    have W8 := W7.on o7.row o8 nB
    obtain ⟨vs, v, z, ev, av, _, iz, okz⟩ := W8.at (j := q8) q80 (by omega)
    refine .inl ⟨_, _, SqL.of ev, av, ?_⟩
    have dz : z.deep < 2 := by
      cases z with
      | num _ => exact (by decide : 0 < 2)
      | key _ _ _ _ => exact (by decide : 0 < 2)
      | gate g y =>
        show y.deep + 1 < 2
        rw [Wd.plain_deep okz.2.2.1]
        decide
    refine ⟨R, v, z, rows, 64 - 4 * rooms, rfl, o8.row, iz, okz, dz, by omega, fun v9 H9 y9 o9 i9 ok9 _ => ?_⟩
    have W9 := W8.on o8.row o9 nB
    refine ⟨R, 8, rfl, o9.row, by decide, by decide, fun q10 H10 q100 q101 o10 => ?_⟩
    have W10 := W9.on o9.row o10 nB
    have i10 := i9.tups (On.tups o9.row o10)
    obtain ⟨vs10, ev10, lv10⟩ := W10.lst
    refine .inl ⟨_, _, ev10, ixN_ok q100 (by omega), ?_⟩
    have o010 := ((o7.trans o8).trans o9).trans o10
    refine ⟨_, _, rfl, o010.fill hB0 nB W10.soft _, (((C7.on o7.row o8 nD).on o8.row o9 nD).on o9.row o10 nD).go (Tups.upd W10.soft) (fun o e => by rw [upd_ne nDB]; exact e), _, W10.set ev10 _ i10 ok9, by rw [List.length_set]; exact hl7⟩
  · rintro σ H7 ⟨x, y, rfl, o7, C7, bs7, W7, hl7⟩
    refine ⟨(by decide : 3 ≤ sizeLine), fun t ht => ?_⟩
    have s7 := same_new ht (.tup [.int rooms, .ref D, .ref B])
    exact k t D B rooms cs bs7 _ (o7.new ht _) upd_same hrooms.1 hrooms.2 (C7.same s7) (W7.same s7) (by omega) hl7 hD0 hB0 nDB nD nB
end
end Tm
set_option Elab.async false
set_option linter.all false
set_option maxRecDepth 100000
set_option maxHeartbeats 1000000
set_option pp.maxSteps 600
set_option pp.deepTerms false
namespace Tm
open PySem L2
def spChained (K : PySem.W.Frag) : Sp := fun vs H Q _ => ∃ (R : Addr) (most rows : Int), vs = [.ref R, .int most, .int rows] ∧ RowAt K H R ∧ 16 ≤ most ∧ most ≤ 64 ∧ 0 ≤ rows ∧ rows ≤ 1000 ∧
  ∀ (t c : Addr) (kv : V) (cs : List Wd) (k0 : Wd) (H' : Hp), On K R H H' → H' t = some (.tup [.ref c, kv]) → Wds rows most H' c cs → (cs.length : Int) = most → IsW H' k0 kv → WOk rows most k0 → H c = none → c ≠ R → Q (.ref t) H'
theorem rights_gh : RightsOk (Str.ofString "gh") := by unfold RightsOk; decide +kernel
theorem rights_ghs : RightsOk (Str.ofString "ghs") := by unfold RightsOk; decide +kernel
theorem rights_ghls : RightsOk (Str.ofString "ghls") := by unfold RightsOk; decide +kernel
theorem rep_zero : ∀ n : Nat, (List.replicate n [V.int 0]).flatten = List.replicate n (V.int 0)
  | 0 => rfl
  | n + 1 => by
    rw [List.replicate_succ, List.flatten_cons, rep_zero n, List.replicate_succ]
    rfl
theorem paired_rep {H : Hp} : ∀ n : Nat, Paired (IsW H) (List.replicate n (Wd.num 0)) (List.replicate n (V.int 0))
  | 0 => .nil
  | n + 1 => .cons rfl (paired_rep n)
abbrev s_law_chained : Stmt := top 45
abbrev N_law_chained : List Str := ["_law_row", "_law_most", "_law_rows", "_law_cells", "_law_left", "_law_some", "_law_k", "_law_rights_here", "_law_key_here"]
abbrev P_law_chained : List Str := ["_law_row", "_law_most", "_law_rows"]
theorem sc_law_chained : FnScope N_law_chained P_law_chained (defScope s_law_chained) := ⟨rfl, rfl, rfl, by decide +kernel, rfl, by decide +kernel, by decide +kernel⟩
section
variable {P : Program} {w : World} {K : PySem.W.Frag} {mg : Str → Option Value} {base : Heap}
theorem ok_chained {f : Addr} {fd : FuncData} (F : Fun K "_law_chained" "_law_chained" s_law_chained f fd) (T : Tx mg) (D_law_taken : Df P w K mg base 1 "_law_taken" P_law_taken [] (spTaken K)) (D_law_rights : Df P w K mg base 2 "_law_rights" P_law_rights [] (spDraw K fun v _ => isRights v)) : FnOk P w K mg base CX0 3 f fd P_law_chained (spChained K) := by
  have sc := sc_law_chained
  refine F.ok sc (fun vs H Q E h => ?_) (fun cdv A outer s H vs Q E hr h => ?_)
  · obtain ⟨R, most, rows, rfl, _⟩ := h
    rfl
  obtain ⟨R, most, rows, rfl, r0, m0, m1, w0, w1, k⟩ := h
  have hu := hu_of hr
  have hu64 := hr.units
  refine ⟨_, ((pss_cons (ps_set (i := 3) sc.nd rfl (by first | exact Or.inl rfl | exact Or.inr rfl) (pe_op oq_mul (pe_lst (pa_cons pe_int pa_nil)) (qv 1)))
  (pss_cons (ps_set (i := 4) sc.nd rfl (by first | exact Or.inl rfl | exact Or.inr rfl) (pe_callTy (cr_list_rng rfl) (by rfl) T.list (by decide +kernel) (pa_cons (pe_callTy cr_range1 (by rfl) T.range (by decide +kernel) (pa_cons (qv 1) pa_nil)) pa_nil)))
  (pss_cons (ps_setLc (i := 5) (own := [("_law_k", 6)]) (g := gName 6) (by rfl) sc.nd rfl rfl (sw_true rfl rfl rfl (by decide +kernel)) (pi_range1 (by rfl) T.range (pa_cons (pe_op (oq_add K) pe_int (qcall D_law_taken (by first | exact hr | exact hr.mono (by omega)) (pa_cons (qv 0) (pa_cons (pe_callB (call_min2 rfl) (by rfl) T.min (by decide +kernel) (pa_cons (pe_op oq_sub (qv 1) pe_int) (pa_cons pe_int pa_nil))) pa_nil)))) pa_nil)) (blkOk_by (own := [("_law_k", 6)]) (N := N_law_chained) (sc := defScope s_law_chained) (by decide +kernel)) (fun _ _ _ _ _ => (pg_name (i := 6) sc.nd rfl (by first | exact Or.inl rfl | exact Or.inr rfl))) (fun _ _ _ _ _ => pts_nil) (fun _ _ _ _ _ => (pe_bmK K PySem.F.plainAttrs_list PySem.F.slot_list_pop PySem.F.type_list_pop mt_popAt (qv 4) (pa_cons (qcall D_law_taken (by first | exact hr | exact hr.mono (by omega)) (pa_cons (qv 0) (pa_cons (pe_callB (cq_len K) (by rfl) T.len (by decide +kernel) (pa_cons (qv 4) pa_nil)) pa_nil))) pa_nil))))
  (pss_cons (ps_for PassesOwn.never rfl (pi_range1 (by rfl) T.range (pa_cons (pe_op oq_sub (pe_callB (cq_len K) (by rfl) T.len (by decide +kernel) (pa_cons (qv 5) pa_nil)) pe_int) pa_nil)) (pg_name (i := 6) sc.nd rfl (by first | exact Or.inl rfl | exact Or.inr rfl))
  (pss_cons (ps_set (i := 7) sc.nd rfl (by first | exact Or.inl rfl | exact Or.inr rfl) (pe_ix (iq K hu) (pe_lst (pa_cons pe_str (pa_cons pe_str (pa_cons pe_str (pa_cons (qcall D_law_rights (by first | exact hr | exact hr.mono (by omega)) (pa_cons (qv 0) pa_nil)) pa_nil))))) (qcall D_law_taken (by first | exact hr | exact hr.mono (by omega)) (pa_cons (qv 0) (pa_cons pe_int pa_nil))) (fun _ _ => rfl)))
  (pss_cons (ps_set (i := 8) sc.nd rfl (by first | exact Or.inl rfl | exact Or.inr rfl) (pe_tup (pa_cons pe_str (pa_cons (pe_ix (iq K hu) (qv 5) (pe_op (oq_add K) (qv 6) pe_int) (fun _ _ => rfl)) (pa_cons (pe_op (oq_add K) (pe_ix (iq K hu) (qv 5) (pe_op (oq_add K) (qv 6) pe_int) (fun _ _ => rfl)) pe_int) (pa_cons (pe_ix (iq K hu) (qv 5) (pe_op (oq_add K) (qv 6) pe_int) (fun _ _ => rfl)) (pa_cons (qv 7) pa_nil)))))))
  (pss_one (ps_asg (pe_ifExp (pt_cmpR oq_gt (qcall D_law_taken (by first | exact hr | exact hr.mono (by omega)) (pa_cons (qv 0) (pa_cons pe_int pa_nil))) pe_int (nomark _)) (qv 8) (pe_tup (pa_cons pe_str (pa_cons (qcall D_law_taken (by first | exact hr | exact hr.mono (by omega)) (pa_cons (qv 0) (pa_cons (pe_op (oq_add K) (qv 2) pe_int) pa_nil))) (pa_cons (qv 8) pa_nil))))) (pg_sub (qv 3) (pe_ix (iq K hu) (qv 5) (qv 6) (fun _ _ => rfl)) (sq hu)))))))
  (pss_one (ps_ret (pe_tup (pa_cons (qv 3) (pa_cons (pe_tup (pa_cons pe_str (pa_cons (pe_ix (iq K hu) (qv 5) pe_int (fun _ _ => rfl)) (pa_cons (pe_op (oq_add K) (pe_ix (iq K hu) (qv 5) pe_int (fun _ _ => rfl)) pe_int) (pa_cons pe_int (pa_cons pe_str pa_nil)))))) pa_nil))))))))) : PSs _ (_ :: _) _), ?_⟩
  refine ⟨(by decide : 1 ≤ sizeLine), fun z hz => ?_⟩
  refine ⟨z, most, [.int 0], rfl, rfl, upd_same, by omega, by omega, Nat.le_of_lt (small1000 (by show 1 * most.toNat ≤ 1000; omega)), fun C hC => ?_⟩
  rw [rep_zero]
  have nC : H C = none := (same_new hz _).free hC
  have nCR : C ≠ R := r0.ne nC
  have o1 := ((On.refl r0).new hz (.lst [.int 0])).new hC (.lst (List.replicate most.toNat (.int 0)))
  have W1 : Wds rows most (upd (upd H z (.lst [.int 0])) C (.lst (List.replicate most.toNat (.int 0)))) C (List.replicate most.toNat (.num 0)) := ⟨⟨_, upd_same, paired_rep _⟩, fun x hx => by rw [List.eq_of_mem_replicate hx]; exact ⟨by decide, by decide⟩⟩
  generalize upd (upd H z (.lst [.int 0])) C (.lst (List.replicate most.toNat (.int 0))) = H1 at o1 W1
  refine ⟨most, rfl, fun pr hpr => ?_⟩
  refine ⟨pr, 0, most, rfl, upd_same, ⟨by omega, by omega, by omega, by omega⟩, fun Lf hLf => ?_⟩
  have o2 := (o1.new hpr (.rng 0 most)).new hLf (.lst ((upL 0 (most - 0).toNat).map V.int))
  have s2 := (same_new hpr (.rng 0 most)).trans (same_new hLf (.lst ((upL 0 (most - 0).toNat).map V.int)))
  have W2 := W1.same s2
  have nLf : H Lf = none := (o1.new hpr (.rng 0 most)).none hLf ((o1.new hpr (.rng 0 most)).row.ne hLf)
  have nLR : Lf ≠ R := r0.ne nLf
  have nLC : C ≠ Lf := by
    obtain ⟨vs, e, _⟩ := (W1.same (same_new hpr (.rng 0 most))).lst
    exact ne_of_none e hLf
  have e2 : ∃ lv : List V, upd (upd H1 pr (.rng 0 most)) Lf (.lst ((upL 0 (most - 0).toNat).map V.int)) Lf = some (.lst lv) ∧ (lv.length : Int) = most ∧ ∀ v ∈ lv, ∃ x : Int, v = .int x ∧ 0 ≤ x ∧ x < most := by
    refine ⟨_, upd_same, ?_, fun v hv => ?_⟩
    · unfold upL
      rw [List.length_map, List.length_map, List.length_range]
      omega
    · obtain ⟨x, hx, rfl⟩ := List.mem_map.mp hv
      have := mem_upL.mp hx
      exact ⟨x, rfl, by omega, by omega⟩
  generalize upd (upd H1 pr (.rng 0 most)) Lf (.lst ((upL 0 (most - 0).toNat).map V.int)) = H2 at o2 W2 e2
  refine ⟨most - 1, 12, rfl, ?_⟩
  rw [if_pos (by omega)]
  refine ⟨R, 12, rfl, o2.row, by decide, by decide, fun q H3 q0 q1 o3 => ?_⟩
  refine ⟨_, rfl, by omega, by omega, fun D hD => ?_⟩
  have o3' := o2.trans o3
  have nDR : D ≠ R := o3.row.ne hD
  have nD : H D = none := o3'.none hD nDR
  have W3 := W2.on o2.row o3 nCR
  have nDC : C ≠ D := by
    obtain ⟨vs, e, _⟩ := W3.lst
    exact ne_of_none e hD
  obtain ⟨lv2, eL2, lL2, bL2⟩ := e2
  have eL3 := o3.at eL2 nLR
  have nDL : Lf ≠ D := ne_of_none eL3 hD
  refine lc_range (lo := 0) (n := (1 + q).toNat) (fun i H4 => On K R H H4 ∧ Wds rows most H4 C (List.replicate most.toNat (.num 0)) ∧ (∃ lv : List V, H4 Lf = some (.lst lv) ∧ (lv.length : Int) + i = most ∧ ∀ v ∈ lv, ∃ x : Int, v = .int x ∧ 0 ≤ x ∧ x < most) ∧ ∃ sv : List V, H4 D = some (.lst sv) ∧ sv.length = i ∧ ∀ v ∈ sv, ∃ x : Int, v = .int x ∧ 0 ≤ x ∧ x < most)
    ⟨o3'.new hD _, W3.same (same_new hD _), ⟨lv2, (same_new hD _) _ _ eL3, by omega, bL2⟩, [], upd_same, rfl, fun v hv => absurd hv (by simp)⟩ ?_ ?_
  · rintro i H4 hi ⟨o4, W4, ⟨lv, eL, lL, bL⟩, sv, eD, lD, bD⟩
    refine ⟨rfl, ?_⟩
    refine ⟨.inl ⟨rfl, _, SqL.of eL⟩, .inl ⟨_, SqL.of eL, ?_⟩⟩
    refine ⟨R, _, rfl, o4.row, by omega, by omega, fun n H5 n0 n1 o5 => ?_⟩
    have eL5 := o5.at eL nLR
    have eD5 := o5.at eD nDR
    have hn : n.toNat < lv.length := by omega
    refine ⟨Lf, lv, n, n.toNat, _, rfl, rfl, eL5, by omega, by omega, seqIx_ok n0 n1, List.getElem?_eq_getElem hn, ?_⟩
    obtain ⟨y, ey, y0, y1⟩ := bL _ (List.getElem_mem hn)
    have o5' := (o4.trans o5).fill nLf nLR (soft_lst eL5) (.lst (lv.eraseIdx n.toNat))
    have W5 : Wds rows most (upd H5 Lf (.lst (lv.eraseIdx n.toNat))) C (List.replicate most.toNat (.num 0)) := (W4.on o4.row o5 nCR).go (Tups.upd (soft_lst eL5)) fun o e => by rw [upd_ne nLC]; exact e
    have eD6 : upd H5 Lf (.lst (lv.eraseIdx n.toNat)) D = some (.lst sv) := by rw [upd_ne nDL.symm]; exact eD5
    have eL6 : upd H5 Lf (.lst (lv.eraseIdx n.toNat)) Lf = some (.lst (lv.eraseIdx n.toNat)) := upd_same
    generalize upd H5 Lf (.lst (lv.eraseIdx n.toNat)) = H6 at o5' W5 eD6 eL6
    refine ⟨sv, eD6, small1000 (by omega), o5'.fill nD nDR (soft_lst eD6) _, W5.go (Tups.upd (soft_lst eD6)) (fun o e => by rw [upd_ne nDC]; exact e), ⟨_, by rw [upd_ne nDL]; exact eL6, ?_, fun v hv => bL v (List.mem_of_mem_eraseIdx hv)⟩, _, upd_same, by rw [List.length_append, List.length_singleton, lD], fun v hv => ?_⟩
    · rw [List.length_eraseIdx_of_lt hn]
      omega
    · rcases List.mem_append.mp hv with z | z
      · exact bD v z
      · rw [List.mem_singleton.mp z]
        exact ⟨y, ey, y0, y1⟩
  rintro H4 ⟨o4, W4, _, sv, eD, lD, bD⟩
  have lsv : (sv.length : Int) = 1 + q := by omega
  have atS : ∀ j : Nat, j < sv.length → ∃ x : Int, atI sv (j : Int) = some (.int x) ∧ 0 ≤ x ∧ x < most := fun j hj => by
    obtain ⟨x, ex, x0, x1⟩ := bD _ (List.getElem_mem hj)
    exact ⟨x, by rw [← ex]; exact atI_nat (List.getElem?_eq_getElem hj), x0, x1⟩
  refine .inl ⟨_, SqL.of eD, ?_⟩
  refine ⟨_, rfl, by omega, by omega, for_range (lo := 0) (n := ((sv.length : Int) - 1).toNat) (fun i σ H7 => ∃ x y z, σ = [some (.ref R), some (.int most), some (.int rows), some (.ref C), some (.ref Lf), some (.ref D), x, y, z] ∧ On K R H H7 ∧ H7 D = some (.lst sv) ∧ ∃ cs, Wds rows most H7 C cs ∧ (cs.length : Int) = most)
    ⟨_, _, _, rfl, o4, eD, _, W4, by rw [List.length_replicate]; omega⟩ ?_ ?_⟩
  · rintro i σ H7 hi ⟨x, y, z, rfl, o7, eD7, cs7, W7, lc7⟩
    have e0 : (0 : Int) + (i : Int) = (i : Int) := by omega
    rw [e0]
    obtain ⟨x1, a1, x10, x11⟩ := atS (i + 1) (by omega)
    obtain ⟨x0, a0, x00, x01⟩ := atS i (by omega)
    have ea : atI sv ((i : Int) + 1) = some (.int x1) := by
      have q : (i : Int) + 1 = ((i + 1 : Nat) : Int) := by omega
      rw [q]
      exact a1
    refine ⟨R, rfl, o7.row, fun v H8 o8 ⟨r, er, hr⟩ => ?_⟩
    subst er
    refine ⟨(by decide : 4 ≤ sizeLine), fun p hp => ?_⟩
    have o8' := o8.new hp (.lst [.str "ghls", .str "gh", .str "ghs", .str r])
    refine ⟨R, 4, rfl, o8'.row, by decide, by decide, fun n H9 n0 n1 o9 => ?_⟩
    have e9 : H9 p = _ := o9.at upd_same (o8.row.ne hp)
    obtain ⟨r', er', hr'⟩ : ∃ r' : Str, atI [V.str "ghls", .str "gh", .str "ghs", .str r] n = some (.str r') ∧ RightsOk r' := by
      obtain rfl | rfl | rfl | rfl : n = 0 ∨ n = 1 ∨ n = 2 ∨ n = 3 := by omega
      · exact ⟨_, rfl, rights_ghls⟩
      · exact ⟨_, rfl, rights_gh⟩
      · exact ⟨_, rfl, rights_ghs⟩
      · exact ⟨_, rfl, hr⟩
    refine .inl ⟨_, _, SqL.of e9, er', ?_⟩
    have o79 := o8'.trans o9
    have eD9 := o79.at eD7 nDR
    refine .inl ⟨_, _, SqL.of eD9, ea, .inl ⟨_, _, SqL.of eD9, ea, .inl ⟨_, _, SqL.of eD9, ea, ?_⟩⟩⟩
    refine ⟨(by decide : 5 ≤ sizeLine), fun t ht => ?_⟩
    have o10 := o79.new ht (.tup [.str "key", .int x1, .int (x1 + 1), .int x1, .str r'])
    have t10 : upd H9 t (.tup [.str "key", .int x1, .int (x1 + 1), .int x1, .str r']) t = some (.tup [.str "key", .int x1, .int (x1 + 1), .int x1, .str r']) := upd_same
    generalize upd H9 t (.tup [.str "key", .int x1, .int (x1 + 1), .int x1, .str r']) = H10 at o10 t10
    have ok1 : WOk rows most (.key x1 (x1 + 1) x1 r') := ⟨by omega, by omega, by omega, ⟨by omega, by omega⟩, hr'⟩
    refine ⟨R, 8, rfl, o10.row, by decide, by decide, fun n2 H11 n20 n21 o11 => ⟨_, rfl, ?_⟩⟩
    have t11 := On.tups o10.row o11 _ _ t10
    have o711 := o10.trans o11
    refine ite2 (fun _ => ?_) (fun _ => ?_)
    · have eD11 := o711.at eD7 nDR
      have W11 := W7.on o7.row o711 nCR
      obtain ⟨vs11, ec11, lc11⟩ := W11.lst
      refine .inl ⟨_, _, SqL.of eD11, a0, ?_⟩
      refine .inl ⟨_, _, ec11, ixN_ok x00 (by omega), ?_⟩
      exact ⟨_, _, _, rfl, (o7.trans o711).fill nC nCR W11.soft _, by rw [upd_ne nDC.symm]; exact eD11, _, W11.set (x := .key x1 (x1 + 1) x1 r') ec11 _ ⟨t, rfl, t11⟩ ok1, by rw [List.length_set]; exact lc7⟩
    · refine ⟨R, rows + 1, rfl, o11.row, by omega, by omega, fun n3 H12 n30 n31 o12 => ?_⟩
      refine ⟨(by decide : 3 ≤ sizeLine), fun t2 ht2 => ?_⟩
      have t12 := On.tups o11.row o12 _ _ t11
      have s13 := same_new ht2 (.tup [.str "gate", .int n3, .ref t])
      have o713 := (o711.trans o12).new ht2 (.tup [.str "gate", .int n3, .ref t])
      have eD11 := o713.at eD7 nDR
      have W11 := W7.on o7.row o713 nCR
      obtain ⟨vs11, ec11, lc11⟩ := W11.lst
      refine .inl ⟨_, _, SqL.of eD11, a0, ?_⟩
      refine .inl ⟨_, _, ec11, ixN_ok x00 (by omega), ?_⟩
      exact ⟨_, _, _, rfl, (o7.trans o713).fill nC nCR W11.soft _, by rw [upd_ne nDC.symm]; exact eD11, _, W11.set (x := .gate n3 (.key x1 (x1 + 1) x1 r')) ec11 _ ⟨t2, _, rfl, upd_same, t, rfl, s13 _ _ t12⟩ ⟨by omega, by omega, trivial, ok1⟩, by rw [List.length_set]; exact lc7⟩
  · rintro σ H7 ⟨x, y, z, rfl, o7, eD7, cs7, W7, lc7⟩
    obtain ⟨x0, a0, x00, x01⟩ := atS 0 (by omega)
    refine .inl ⟨_, _, SqL.of eD7, a0, .inl ⟨_, _, SqL.of eD7, a0, ?_⟩⟩
    refine ⟨(by decide : 5 ≤ sizeLine), fun t ht => ⟨(by decide : 2 ≤ sizeLine), fun t2 ht2 => ?_⟩⟩
    have o8 := (o7.new ht (.tup [.str "key", .int x0, .int (x0 + 1), .int 0, .str "gh"])).new ht2 (.tup [.ref C, .ref t])
    have s8 := same_new ht2 (.tup [.ref C, .ref t])
    have s7 := (same_new ht (.tup [.str "key", .int x0, .int (x0 + 1), .int 0, .str "gh"])).trans s8
    exact k t2 C (.ref t) cs7 (.key x0 (x0 + 1) 0 "gh") _ o8 upd_same (W7.same s7) lc7 ⟨t, rfl, s8 _ _ upd_same⟩ ⟨by omega, by omega, by omega, ⟨by decide, by decide⟩, rights_gh⟩ nC nCR
end
end Tm
set_option Elab.async false
set_option linter.all false
set_option maxRecDepth 100000
set_option maxHeartbeats 1000000
namespace Tm
open PySem L2
theorem wok_deep {rows most : Int} : ∀ {x : Wd}, WOk rows most x → x.deep < 2
  | .num _, _ => by show 0 < 2; decide
  | .key _ _ _ _, _ => by show 0 < 2; decide
  | .gate _ w, ⟨_, _, p, _⟩ => by
    show w.deep + 1 < 2
    rw [Wd.plain_deep p]
    decide
theorem cutV_to21 {xs : List V} {n : Int} (h0 : 0 ≤ n) (h1 : n ≤ xs.length) : cutV xs none (some n) = xs.take n.toNat := by
  have q2 : HT.sIx xs.length xs.length (some n) = n.toNat := by
    have := HT.sIx_nat xs.length xs.length n.toNat
    rw [Int.toNat_of_nonneg h0] at this
    omega
  unfold cutV
  rw [q2, HT.sIx_none, List.drop_zero, Nat.sub_zero]
theorem cutV_from21 {xs : List V} {n : Int} (h0 : 0 ≤ n) (h1 : n ≤ xs.length) : cutV xs (some n) none = xs.drop n.toNat := by
  have q2 : HT.sIx xs.length 0 (some n) = n.toNat := by
    have := HT.sIx_nat xs.length 0 n.toNat
    rw [Int.toNat_of_nonneg h0] at this
    omega
  unfold cutV
  rw [q2, HT.sIx_none]
  exact List.take_of_length_le (by rw [List.length_drop]; omega)
def prD (p : Int × Str) : PyData := .tuple [.int p.1, .str p.2]
def prsD (ps : List (Int × Str)) : PyData := .list (ps.map prD)
theorem prs_dp {K : PySem.W.Frag} {H : Hp} : ∀ {ps : List (Int × Str)} {vs : List V}, Paired (PrAt H) ps vs → DpAll K H vs (ps.map prD)
  | _, _, .nil => .nil
  | (c, z) :: _, _, .cons ⟨t, e, h⟩ r => by
    subst e
    exact .cons (.tup (SqT.of h) (.cons (.int _) (.cons (.str _) .nil))) (prs_dp r)
theorem told_dp {K : PySem.W.Frag} {H : Hp} {l : Addr} {ps : List (Int × Str)} {vs : List V} (e : H l = some (.lst vs)) (p : Paired (PrAt H) ps vs) : Dp K H (.ref l) (prsD ps) := .lst (SqL.of e) (prs_dp p)
theorem letters_ok (ks : List Wd) (c : Int) : PyData.strOk (lettersM ks c) = true := by
  unfold PyData.strOk lettersM
  rw [Array.all_eq_true']
  intro x hx
  have : x ∈ [103, 115].filter fun l => ks.any fun k => touchB k c l := by simpa using hx
  have := (List.mem_filter.mp this).1
  simp only [List.mem_cons, List.not_mem_nil, or_false] at this
  rcases this with rfl | rfl <;> decide
theorem prs_shaped {ps : List (Int × Str)} (h : ∀ p ∈ ps, PyData.strOk p.2 = true) : SeqAt.shaped (prsD ps) = true := by
  have a : ∀ ps : List (Int × Str), (∀ p ∈ ps, PyData.strOk p.2 = true) → PyData.canLayAll0 (ps.map prD) = true := by
    intro ps
    induction ps with
    | nil => intro _; simp [PyData.canLayAll0]
    | cons p ps ih =>
      intro h
      have h1 := h p (List.mem_cons_self ..)
      have h2 := ih fun q hq => h q (List.mem_cons_of_mem _ hq)
      simp [PyData.canLayAll0, prD, PyData.canLay0, h1, h2]
  have b : ∀ ps : List (Int × Str), PyData.depthAll (ps.map prD) ≤ 2 := by
    intro ps
    induction ps with
    | nil => simp [PyData.depthAll]
    | cons p ps ih =>
      rw [List.map_cons, PyData.depthAll]
      have : (prD p).depth ≤ 2 := by
        unfold prD
        simp [PyData.depth, PyData.depthAll]
      omega
  unfold SeqAt.shaped prsD
  refine Bool.and_eq_true_iff.mpr ⟨?_, decide_eq_true ?_⟩
  · simp only [PyData.canLay0]
    exact a ps h
  · have := b ps
    simp only [PyData.depth]
    omega
theorem told_shaped (ks : List Wd) (n : Nat) : SeqAt.shaped (prsD (toldM ks n)) = true := prs_shaped fun p hp => by
  obtain ⟨c, z⟩ := p
  obtain ⟨_, _, rfl, _⟩ := told_mem.mp hp
  exact letters_ok ks c
theorem told_ne {K : PySem.W.Frag} {H : Hp} {l l2 : Addr} {us us2 : List V} {ks ks2 : List Wd} {n : Nat} {Q : VK} (e1 : H l = some (.lst us)) (p1 : Paired (PrAt H) (toldM ks n) us) (e2 : H l2 = some (.lst us2)) (p2 : Paired (PrAt H) (toldM ks2 n) us2) (h : toldM ks n = toldM ks2 n) (q : Q (.bl false) H) : rNeA K (.ref l) (.ref l2) H Q := by
  refine ⟨_, _, told_dp e1 p1, told_dp e2 p2, told_shaped ks n, told_shaped ks2 n, ?_⟩
  rw [h]
  have cl := (Bool.and_eq_true_iff.mp (told_shaped ks2 n)).1
  rw [PySem.SeqAt.eqv_refl _ cl]
  exact q
structure C21 (K : PySem.W.Frag) (R Tb c b : Addr) (rows rooms : Int) (cs bs : List Wd) (H : Hp) : Prop where
  row : RowAt K H R
  tb : TblOk posA qA H Tb
  wc : Wds rows (64 - 4 * rooms) H c cs
  wb : Wds rows (64 - 4 * rooms) H b bs
  cR : c ≠ R
  bR : b ≠ R
def T21 (R : Addr) (n : Nat) (ks : List Wd) (l : Addr) (H : Hp) : Prop := ∃ us, H l = some (.lst us) ∧ Paired (PrAt H) (toldM ks n) us ∧ l ≠ R
section
variable {K : PySem.W.Frag} {R Tb c b l : Addr} {rows rooms : Int} {cs bs ks : List Wd} {n : Nat} {H H' : Hp}
theorem C21.same (h : C21 K R Tb c b rows rooms cs bs H) (s : Same H H') : C21 K R Tb c b rows rooms cs bs H' := ⟨h.row.same s, h.tb.same s, h.wc.same s, h.wb.same s, h.cR, h.bR⟩
theorem C21.on (h : C21 K R Tb c b rows rooms cs bs H) (o : On K R H H') : C21 K R Tb c b rows rooms cs bs H' := ⟨o.row, h.tb.on h.row o, h.wc.on h.row o h.cR, h.wb.on h.row o h.bR, h.cR, h.bR⟩
theorem C21.gro (h : C21 K R Tb c b rows rooms cs bs H) (g : Gro Tb posA qA H H') : C21 K R Tb c b rows rooms cs bs H' := ⟨g.row h.tb h.row, g.tb, g.wds h.tb h.wc, g.wds h.tb h.wb, h.cR, h.bR⟩
theorem T21.go (h : T21 R n ks l H) (t : Tups H H') (k : ∀ xs, H l = some (.lst xs) → H' l = some (.lst xs)) : T21 R n ks l H' := by
  obtain ⟨us, e, p, nr⟩ := h
  exact ⟨us, k _ e, Paired.mapP p fun _ _ z => z.tups t, nr⟩
theorem T21.same (h : T21 R n ks l H) (s : Same H H') : T21 R n ks l H' := h.go (Same.tups s) fun _ e => s _ _ e
theorem T21.on (h : T21 R n ks l H) (r : RowAt K H R) (o : On K R H H') : T21 R n ks l H' := by
  have nr := h.choose_spec.2.2
  exact h.go (On.tups r o) fun _ e => o.at e nr
theorem T21.gro (h : T21 R n ks l H) (tb : TblOk posA qA H Tb) (g : Gro Tb posA qA H H') : T21 R n ks l H' := h.go (g.tups tb) fun _ e => g.lst tb e
theorem T21.tld (h : T21 R n ks l H) : TldAt n H (.ref l) ks := by
  obtain ⟨us, e, p, _⟩ := h
  exact ⟨l, us, rfl, e, p⟩
def L21 (R A : Addr) (n : Nat) (H : Hp) (v : V) (ks : List Wd) : Prop := ∃ l, v = .ref l ∧ T21 R n ks l H ∧ l ≠ A
theorem L21.tld {A : Addr} {v : V} (h : L21 R A n H v ks) : TldAt n H v ks := by
  obtain ⟨l, rfl, t, _⟩ := h
  exact t.tld
theorem row_fill {A : Addr} {xs ys : List V} (r : RowAt K H R) (n : A ≠ R) (e : H A = some (.lst xs)) : RowAt K (upd H A (.lst ys)) R := by
  obtain ⟨a, ns, i, s, c, hR, f, hl, hi⟩ := r
  refine ⟨a, ns, i, s, c, by rw [upd_ne (fun z => n z.symm)]; exact hR, ?_, hl, hi⟩
  rcases f with ⟨ob, e1⟩ | e1
  · exact .inl ⟨ob, by rw [upd_ne (fun z => by rw [z, e] at e1; cases e1)]; exact e1⟩
  · exact .inr e1
theorem tb_fill {T A : Addr} {xs ys : List V} (t : TblOk posA qA H T) (e : H A = some (.lst xs)) : TblOk posA qA (upd H A (.lst ys)) T := by
  rcases t with t | ⟨c, t1, t2⟩
  · exact .inl (by rw [upd_ne (fun z => by rw [z, e] at t; cases t)]; exact t)
  · exact .inr ⟨c, by rw [upd_ne (fun z => by rw [z, e] at t1; cases t1)]; exact t1, by rw [upd_ne (fun z => by rw [z, e] at t2; cases t2)]; exact t2⟩
theorem C21.fill {A : Addr} {xs ys : List V} (h : C21 K R Tb c b rows rooms cs bs H) (nR : A ≠ R) (nc : c ≠ A) (nb : b ≠ A) (e : H A = some (.lst xs)) : C21 K R Tb c b rows rooms cs bs (upd H A (.lst ys)) := by
  have tp : Tups H (upd H A (.lst ys)) := Tups.upd (soft_lst e)
  exact ⟨row_fill h.row nR e, tb_fill h.tb e, h.wc.go tp fun o q => by rw [upd_ne nc]; exact q, h.wb.go tp fun o q => by rw [upd_ne nb]; exact q, h.cR, h.bR⟩
theorem T21.fill {A : Addr} {xs ys : List V} (h : T21 R n ks l H) (nl : l ≠ A) (e : H A = some (.lst xs)) : T21 R n ks l (upd H A (.lst ys)) := h.go (Tups.upd (soft_lst e)) fun xs q => by rw [upd_ne nl]; exact q
theorem one_wds {p : Addr} {most : Int} {bv : List V} {i : Nat} (h : Wds rows most H b bs) (eb : H b = some (.lst bv)) (ep : H p = some (.lst (List.replicate i (.int 0) ++ (bv.drop i).take 1 ++ List.replicate (7 - i) (.int 0)))) : Wds rows most H p (oneB bs i) := by
  obtain ⟨⟨vs, e, r⟩, ok⟩ := h
  rw [eb] at e
  cases e
  refine ⟨⟨_, ep, paired_app (paired_app (paired_rep i) (paired_take 1 (paired_drop i r))) (paired_rep _)⟩, fun x hx => ?_⟩
  have z : ∀ m, x ∈ List.replicate m (Wd.num 0) → WOk rows most x := fun m q => by
    rw [List.eq_of_mem_replicate q]
    exact ⟨by decide, by decide⟩
  unfold oneB at hx
  rcases List.mem_append.mp hx with hx | hx
  · rcases List.mem_append.mp hx with hx | hx
    · exact z _ hx
    · exact ok x (List.mem_of_mem_drop (List.mem_of_mem_take hx))
  · exact z _ hx
theorem one_len {i : Nat} (h : i < 8) (lb : bs.length = 8) : (oneB bs i).length = 8 := by
  unfold oneB
  rw [List.length_append, List.length_append, List.length_replicate, List.length_replicate, List.length_take, List.length_drop]
  omega
theorem turn_wds {p : Addr} {most : Int} {bv : List V} {i : Nat} (h : Wds rows most H b bs) (eb : H b = some (.lst bv)) (ep : H p = some (.lst (bv.drop i ++ bv.take i))) : Wds rows most H p (bs.drop i ++ bs.take i) := by
  obtain ⟨⟨vs, e, r⟩, ok⟩ := h
  rw [eb] at e
  cases e
  refine ⟨⟨_, ep, paired_app (paired_drop i r) (paired_take i r)⟩, fun x hx => ?_⟩
  rcases List.mem_append.mp hx with hx | hx
  · exact ok x (List.mem_of_mem_drop hx)
  · exact ok x (List.mem_of_mem_take hx)
end
def Lw21 (R D : Addr) (rows most : Int) (H : Hp) (v : V) (ws : List Wd) : Prop := ∃ x ws', v = .ref x ∧ Wds rows most H x ws' ∧ Paired Lsr ws' ws ∧ x ≠ R ∧ x ≠ D
theorem Lw21.on {K : PySem.W.Frag} {R D : Addr} {rows most : Int} {H H' : Hp} {v : V} {ws : List Wd} (h : Lw21 R D rows most H v ws) (r : RowAt K H R) (o : On K R H H') : Lw21 R D rows most H' v ws := by
  obtain ⟨x, ws', e, w, p, n1, n2⟩ := h
  exact ⟨x, ws', e, w.on r o n1, p, n1, n2⟩
theorem Lw21.fill {R D : Addr} {rows most : Int} {H : Hp} {v : V} {ws : List Wd} {xs ys : List V} (h : Lw21 R D rows most H v ws) (e : H D = some (.lst xs)) : Lw21 R D rows most (upd H D (.lst ys)) v ws := by
  obtain ⟨x, ws', ev, w, p, n1, n2⟩ := h
  exact ⟨x, ws', ev, w.go (Tups.upd (soft_lst e)) fun o z => by rw [upd_ne n2]; exact z, p, n1, n2⟩
theorem prs_kv {K : PySem.W.Frag} {H : Hp} : ∀ {l : List (Int × Str)} {vs : List V}, Paired (PrAt H) l vs → ∃ ps : List Addr, vs = ps.map V.ref ∧ Paired (fun p kv => SqT K H p [kV kv.1, kv.2]) ps (kvT l)
  | _, _, .nil => ⟨[], rfl, .nil⟩
  | _, _, .cons ⟨t, e, h⟩ r => by
    obtain ⟨ps, e2, p⟩ := prs_kv (K := K) r
    exact ⟨t :: ps, by rw [e, e2]; rfl, .cons (SqT.of h) p⟩
end Tm
set_option Elab.async false
set_option linter.all false
set_option maxRecDepth 100000
set_option maxHeartbeats 4000000
set_option pp.maxSteps 900
set_option pp.deepTerms false
namespace Tm
open PySem L2
def spLaw (T : Addr) (K : PySem.W.Frag) : Sp := fun vs H Q _ => ∃ (a : Addr) (ns : List Int), vs = [.ref a] ∧ Frz K H a (ns.map V.int) ∧ ns.length ≤ 63 ∧ TblOk posA qA H T ∧ ∀ H', Q (.bl true) H'
abbrev s_law : Stmt := top 54
abbrev N_law : List Str := ["_law_script", "_law_row", "_law_turn", "_law_rows", "_law_gates", "_law_told", "_law_alone", "_law_k", "_law_bare", "_law_lower", "_law_less", "_law_rooms", "_law_cells", "_law_boxes", "_law_cell", "_law_letter", "_law_some", "_law_one_here"]
abbrev P_law : List Str := ["_law_script"]
theorem sc_law : FnScope N_law P_law (defScope s_law) := ⟨rfl, rfl, rfl, by decide +kernel, rfl, by decide +kernel, by decide +kernel⟩
section
variable {P : Program} {w : World} {K : PySem.W.Frag} {mg : Str → Option Value} {base : Heap}
theorem tV21 {i : Nat} {v : V} {σ : St} {H : Hp} {Q : VK} (e : σ[i]? = some (some v)) (q : Q v H) : tV i σ H Q := by
  unfold tV
  rw [e]
  exact q
theorem ite_tv {g : Bool} {i j : Nat} {x y : Addr} {σ : St} {H : Hp} {Q : VK} (e1 : σ[i]? = some (some (.ref x))) (e2 : σ[j]? = some (some (.ref y))) (q : Q (.ref (if g = true then x else y)) H) : if g = true then tV i σ H Q else tV j σ H Q := by
  cases g with
  | true => exact tV21 e1 q
  | false => exact tV21 e2 q
theorem ok_law {f Tb : Addr} {fd : FuncData} (F : Fun K "law" "law" s_law f fd) (T : Tx mg) (D_law_taken : Df P w K mg base 1 "_law_taken" P_law_taken [] (spTaken K)) (D_law_state : Df P w K mg base 5 "_law_state" P_law_state [] (spState K)) (D_law_chained : Df P w K mg base 3 "_law_chained" P_law_chained [] (spChained K))
    (D_law_lesser : Df P w K mg base 4 "_law_lesser" P_law_lesser [] (spLesser K 2)) (D_law_together : Df P w K mg base 1 "_law_together" P_law_together [] spTogether) (D_reach : Df P w K mg base 9 "reach" P_reach [] (spReach Tb)) (D_touching : Df P w K mg base 9 "touching" P_touching [] (spTouching Tb)) : FnOk P w K mg base CX0 10 f fd P_law (spLaw Tb K) := by
  have sc := sc_law
  refine F.ok sc (fun vs H Q E h => ?_) (fun cdv A outer s H vs Q E hr h => ?_)
  · obtain ⟨a, ns, rfl, _⟩ := h
    rfl
  obtain ⟨a, ns, rfl, far, hl, tb, k⟩ := h
  have hu := hu_of hr
  have hu64 := hr.units
  refine ⟨_, ((pss_cons (ps_set (i := 1) sc.nd rfl (by first | exact Or.inl rfl | exact Or.inr rfl) (pe_lst (pa_cons (qv 0) (pa_cons pe_int (pa_cons pe_int (pa_cons pe_int pa_nil))))))
  (pss_cons (ps_for PassesOwn.never rfl (pi_range1 (by rfl) T.range (pa_cons pe_int pa_nil)) (pg_name (i := 2) sc.nd rfl (by first | exact Or.inl rfl | exact Or.inr rfl))
  (pss_cons (ps_set (i := 3) sc.nd rfl (by first | exact Or.inl rfl | exact Or.inr rfl) (pe_op (oq_add K) pe_int (qcall D_law_taken (by first | exact hr | exact hr.mono (by omega)) (pa_cons (qv 1) (pa_cons pe_int pa_nil)))))
  (pss_cons (ps_asg (qcall D_law_state (by first | exact hr | exact hr.mono (by omega)) (pa_cons (qv 1) (pa_cons (qv 3) pa_nil))) (pg_tup (by rfl) (pgs_cons (pg_name (i := 11) sc.nd rfl (by first | exact Or.inl rfl | exact Or.inr rfl)) (pgs_cons (pg_name (i := 12) sc.nd rfl (by first | exact Or.inl rfl | exact Or.inr rfl)) (pgs_cons (pg_name (i := 13) sc.nd rfl (by first | exact Or.inl rfl | exact Or.inr rfl)) pgs_nil)))))
  (pss_cons (ps_if (pt_cmpR (oq_eq K hu64) (qcall D_law_taken (by first | exact hr | exact hr.mono (by omega)) (pa_cons (qv 1) (pa_cons pe_int pa_nil))) pe_int (nomark _))
  (pss_one (ps_asg (qcall D_law_chained (by first | exact hr | exact hr.mono (by omega)) (pa_cons (qv 1) (pa_cons (pe_callB (cq_len K) (by rfl) T.len (by decide +kernel) (pa_cons (qv 12) pa_nil)) (pa_cons (qv 3) pa_nil)))) (pg_tup (by rfl) (pgs_cons (pg_name (i := 12) sc.nd rfl (by first | exact Or.inl rfl | exact Or.inr rfl)) (pgs_cons (pg_sub (qv 13) (qcall D_law_taken (by first | exact hr | exact hr.mono (by omega)) (pa_cons (qv 1) (pa_cons pe_int pa_nil))) (sq hu)) pgs_nil)))))
  pss_nil)
  (pss_cons (ps_set (i := 4) sc.nd rfl (by first | exact Or.inl rfl | exact Or.inr rfl) (pe_cmpR (oq_eq K hu64) (qcall D_law_taken (by first | exact hr | exact hr.mono (by omega)) (pa_cons (qv 1) (pa_cons pe_int pa_nil))) pe_int (nomark _)))
  (pss_cons (ps_set (i := 5) sc.nd rfl (by first | exact Or.inl rfl | exact Or.inr rfl) (qcall D_reach (by first | exact hr | exact hr.mono (by omega)) (pa_cons (qv 3) (pa_cons (qv 11) (pa_cons (qv 12) (pa_cons (qv 13) (pa_cons (qv 4) pa_nil)))))))
  (pss_cons (ps_set (i := 6) sc.nd rfl (by first | exact Or.inl rfl | exact Or.inr rfl) (pe_lst pa_nil))
  (pss_cons (ps_for PassesOwn.never rfl (pi_range1 (by rfl) T.range (pa_cons pe_int pa_nil)) (pg_name (i := 7) sc.nd rfl (by first | exact Or.inl rfl | exact Or.inr rfl))
  (pss_one (ps_expr (pe_bm PySem.F.plainAttrs_list PySem.F.slot_list_append PySem.F.type_list_append mt_append (qv 6) (pa_cons (qcall D_reach (by first | exact hr | exact hr.mono (by omega)) (pa_cons (qv 3) (pa_cons (qv 11) (pa_cons (qv 12) (pa_cons (pe_op (oq_add K) (pe_op (oq_add K) (pe_op oq_mul (pe_lst (pa_cons pe_int pa_nil)) (qv 7)) (pe_slice (sq_list K) (qv 13) (po_some (qv 7)) (po_some (pe_op (oq_add K) (qv 7) pe_int)))) (pe_op oq_mul (pe_lst (pa_cons pe_int pa_nil)) (pe_op oq_sub pe_int (qv 7)))) (pa_cons (qv 4) pa_nil)))))) pa_nil)))))
  (pss_cons (ps_set (i := 7) sc.nd rfl (by first | exact Or.inl rfl | exact Or.inr rfl) (qcall D_law_taken (by first | exact hr | exact hr.mono (by omega)) (pa_cons (qv 1) (pa_cons pe_int pa_nil))))
  (pss_cons (ps_if (pt_cmpR (oq_ne K hu64) (qcall D_law_together (by first | exact hr | exact hr.mono (by omega)) (pa_cons (qv 6) pa_nil)) (qv 5) (nomark _))
  (pss_one (ps_ret pe_bl))
  pss_nil)
  (pss_cons (ps_if (pt_cmpR (oq_ne K hu64) (qcall D_reach (by first | exact hr | exact hr.mono (by omega)) (pa_cons (qv 3) (pa_cons (qv 11) (pa_cons (qv 12) (pa_cons (pe_op (oq_add K) (pe_slice (sq_list K) (qv 13) (po_some (qv 7)) po_none) (pe_slice (sq_list K) (qv 13) po_none (po_some (qv 7)))) (pa_cons (qv 4) pa_nil)))))) (qv 5) (nomark _))
  (pss_one (ps_ret pe_bl))
  pss_nil)
  (pss_cons (ps_set (i := 8) sc.nd rfl (by first | exact Or.inl rfl | exact Or.inr rfl) (qcall D_reach (by first | exact hr | exact hr.mono (by omega)) (pa_cons (qv 3) (pa_cons (qv 11) (pa_cons (qv 12) (pa_cons (qv 13) (pa_cons pe_bl pa_nil)))))))
  (pss_cons (ps_setLc (i := 9) (own := [("_law_some", 16)]) (g := gName 16) (by rfl) sc.nd rfl rfl (sw_true rfl rfl rfl (by decide +kernel)) (pi_list (pe_lst (pa_cons (qv 12) (pa_cons (qv 13) pa_nil)))) (blkOk_by (own := [("_law_some", 16)]) (N := N_law) (sc := defScope s_law) (by decide +kernel)) (fun _ _ _ _ _ => (pg_name (i := 16) sc.nd rfl (by first | exact Or.inl rfl | exact Or.inr rfl))) (fun _ _ _ _ _ => pts_nil) (fun _ _ _ _ _ => (pe_lc (own := [("_law_one_here", 17)]) (g := gName 17) (by rfl) sc.nd (pi_listK K (qv 16)) (blkOk_by (own := [("_law_one_here", 17)]) (N := N_law) (by rfl)) (fun _ _ _ _ _ => (pg_name (i := 17) sc.nd rfl (by first | exact Or.inl rfl | exact Or.inr rfl))) (fun _ _ _ _ _ => pts_nil) (fun _ _ _ _ _ => (qcall D_law_lesser (by first | exact hr | exact hr.mono (by omega)) (pa_cons (qv 1) (pa_cons (qv 17) pa_nil)))))))
  (pss_cons (ps_set (i := 10) sc.nd rfl (by first | exact Or.inl rfl | exact Or.inr rfl) (qcall D_reach (by first | exact hr | exact hr.mono (by omega)) (pa_cons (qv 3) (pa_cons (qv 11) (pa_cons (pe_ix (iq K hu) (qv 9) pe_int (fun _ _ => rfl)) (pa_cons (pe_ix (iq K hu) (qv 9) pe_int (fun _ _ => rfl)) (pa_cons (qv 4) pa_nil)))))))
  (pss_cons (ps_if (PW.pt (pw_or (pt_cmpR (oq_ne K hu64) (qcall D_law_together (by first | exact hr | exact hr.mono (by omega)) (pa_cons (pe_lst (pa_cons (qv 5) (pa_cons (qv 10) pa_nil))) pa_nil)) (qv 5) (nomark _)) (pw_or1 (pt_cmpR (oq_ne K hu64) (qcall D_law_together (by first | exact hr | exact hr.mono (by omega)) (pa_cons (pe_lst (pa_cons (qv 5) (pa_cons (qv 8) pa_nil))) pa_nil)) (pe_ifExp (pt_truth (qv 4) (by intro _; rfl)) (qv 5) (qv 8)) (nomark _)))))
  (pss_one (ps_ret pe_bl))
  pss_nil)
  (pss_cons (ps_par (i := 14) (j := 15) (by rfl) sc.nd rfl rfl (by decide) rfl rfl (pa_cons (qcall D_law_taken (by first | exact hr | exact hr.mono (by omega)) (pa_cons (qv 1) (pa_cons pe_int pa_nil))) (pa_cons (pe_ix (iq K hu) (pe_lst (pa_lits [.str "g", .str "s"] (by decide +kernel))) (qcall D_law_taken (by first | exact hr | exact hr.mono (by omega)) (pa_cons (qv 1) (pa_cons pe_int pa_nil))) (fun _ _ => rfl)) pa_nil)) (by rfl))
  (pss_one (ps_if (PW.pt (pw_and (pt_cmpR op_notN (qcall D_touching (by first | exact hr | exact hr.mono (by omega)) (pa_cons (qv 3) (pa_cons (qv 11) (pa_cons (qv 12) (pa_cons (qv 13) (pa_cons (qv 14) (pa_cons (qv 15) pa_nil))))))) pe_non (nomark _)) (pw_and1 (pt_cmpR op_notIn_sign (qv 15) (pe_dget2 hu (pe_callTy (call_dictP rfl) (by rfl) T.dict (by decide +kernel) (pa_cons (qv 8) pa_nil)) (qv 14) pe_str ⟨by rfl, by rfl, by rfl, by rfl⟩) (by rfl)))))
  (pss_one (ps_ret pe_bl))
  pss_nil))))))))))))))))))
  (pss_one (ps_ret pe_bl)))) : PSs _ (_ :: _) _), ?_⟩
  refine ⟨(by decide : 4 ≤ sizeLine), fun R hR => ?_⟩
  have r1 : RowAt K (upd H R (.lst [.ref a, .int 0, .int 0, .int 0])) R := RowAt.put far hl (by decide) (soft_none hR)
  have tb1 := tb.same (same_new hR (.lst [.ref a, .int 0, .int 0, .int 0]))
  generalize upd H R (.lst [.ref a, .int 0, .int 0, .int 0]) = H1 at r1 tb1
  refine ⟨3, rfl, by decide, by decide, ?_⟩
  refine for_range (lo := 0) (n := (3 : Int).toNat) (fun _ σ H2 => RowAt K H2 R ∧ TblOk posA qA H2 Tb ∧ ∃ a2 a3 a4 a5 a6 a7 a8 a9 a10 a11 a12 a13 a14 a15 a16 a17, σ = [some (.ref a), some (.ref R), a2, a3, a4, a5, a6, a7, a8, a9, a10, a11, a12, a13, a14, a15, a16, a17]) ⟨r1, tb1, _, _, _, _, _, _, _, _, _, _, _, _, _, _, _, _, rfl⟩ ?_ ?_
  rotate_left
  · rintro σ H2 ⟨r2, _⟩
    exact k H2
  clear r1 tb1 tb far hR
  rintro i σ H2 hi ⟨r2, tb2, a2, a3, a4, a5, a6, a7, a8, a9, a10, a11, a12, a13, a14, a15, a16, a17, rfl⟩
  refine ⟨R, 60, rfl, r2, by decide, by decide, fun q H3 q0 q1 o3 => ?_⟩
  refine ⟨R, (1 + q), rfl, o3.row, by omega, by omega, fun t c0 b0 rooms cs0 bs0 H4 o4 ht4 rm0 rm1 wc0 wb0 lc0 lb0 nc0 nb0 ncb ncR nbR => ?_⟩
  have C4 : C21 K R Tb c0 b0 (1 + q) rooms cs0 bs0 H4 := ⟨o4.row, (tb2.on r2 o3).on o3.row o4, wc0, wb0, ncR, nbR⟩
  refine ⟨t, _, rfl, SqT.of ht4, rfl, _, _, rfl, _, _, rfl, _, _, rfl, rfl, ?_⟩
  dsimp only
  clear o3 o4 ht4 wc0 wb0 nc0 nb0 tb2 r2
  -- the words
  refine tSeq.cut (fun σ' H5 => ∃ (c : Addr) (cs bs : List Wd), σ' = [some (.ref a), some (.ref R), some (.int (0 + (i : Int))), some (.int (1 + q)), a4, a5, a6, a7, a8, a9, a10, some (.int rooms), some (.ref c), some (.ref b0), a14, a15, a16, a17] ∧ C21 K R Tb c b0 (1 + q) rooms cs bs H5 ∧ (cs.length : Int) = 64 - 4 * rooms ∧ bs.length = 8) ?_ ?_
  rotate_left
  · intro fin
    refine ⟨R, 2, rfl, C4.row, by decide, by decide, fun q2 H5 q20 q21 o5 => ?_⟩
    have C5 := C4.on o5
    refine ⟨rfl, _, rfl, ?_⟩
    refine ite2 (fun _ => ?_) (fun _ => ?_)
    · obtain ⟨cv5, ec5, lc5⟩ := C5.wc.lst
      refine .inl ⟨_, SqL.of ec5, ?_⟩
      refine ⟨R, 64 - 4 * rooms, (1 + q), ?_, C5.row, by omega, by omega, by omega, by omega, fun t2 c kv cs k0 H6 o6 ht6 wc6 lc6 ik6 ok6 nc6 ncR6 => ?_⟩
      · have : (cv5.length : Int) = 64 - 4 * rooms := by omega
        rw [this]
        rfl
      have C6 := C5.on o6
      refine ⟨t2, _, rfl, SqT.of ht6, rfl, _, _, rfl, _, _, rfl, ?_⟩
      refine ⟨R, 8, rfl, C6.row, by decide, by decide, fun q3 H8 q30 q31 o8 => ?_⟩
      have C8 := C6.on o8
      have wc8 := wc6.on C6.row o8 ncR6
      have ik8 := ik6.tups (On.tups C6.row o8)
      obtain ⟨vs8, ev8, lv8⟩ := C8.wb.lst
      obtain ⟨vs5, ev5, _⟩ := C5.wb.lst
      have nb : c ≠ b0 := fun z => by rw [z, ev5] at nc6; cases nc6
      refine .inl ⟨_, _, ev8, ixN_ok q30 (by omega), ?_⟩
      refine ⟨rfl, ?_⟩
      refine fin _ _ ⟨c, cs, bs0.set q3.toNat k0, rfl, ⟨row_fill C8.row nbR ev8, tb_fill C8.tb ev8, wc8.go (Tups.upd (soft_lst ev8)) (fun o e => by rw [upd_ne nb]; exact e), C8.wb.set ev8 _ ik8 ok6, ncR6, nbR⟩, lc6, by rw [List.length_set]; exact lb0⟩
    · exact fin _ _ ⟨c0, cs0, bs0, rfl, C5, lc0, lb0⟩
  rintro σ' H5 ⟨c, cs, bs, rfl, C5, lc, lb⟩
  clear C4 lc0 lb0 ncb ncR
  -- gates
  refine ⟨R, 2, rfl, C5.row, by decide, by decide, fun g2 H6 g20 g21 o6 => ?_⟩
  have C6 := C5.on o6
  clear o6 C5
  refine ⟨rfl, ?_⟩
  generalize decide (V.int g2 = V.int 1) = g
  -- what is told
  obtain ⟨n, hn⟩ : ∃ n : Nat, cs.length = n := ⟨_, rfl⟩
  have n64 : n ≤ 64 := by omega
  refine ⟨(1 + q), rooms, c, b0, g, cs, bs, rfl, rm0, rm1, C6.tb, C6.wc, lc, C6.wb, lb, fun l us ks H7 g7 nl hk el pl => ?_⟩
  rw [hn] at pl
  have C7 := C6.gro g7
  have T7 : T21 R n ks l H7 := ⟨us, el, pl, C6.row.ne nl⟩
  clear g7 nl el pl us C6
  -- each alone
  refine ⟨(by decide : 0 ≤ sizeLine), fun Aa hA => ?_⟩
  have sA := same_new hA (.lst [])
  have eA : upd H7 Aa (.lst []) Aa = some (.lst []) := upd_same
  have AR : Aa ≠ R := C7.row.ne hA
  have cA : c ≠ Aa := by
    obtain ⟨vs, e, _⟩ := C7.wc.lst
    exact ne_of_none e hA
  have bA : b0 ≠ Aa := by
    obtain ⟨vs, e, _⟩ := C7.wb.lst
    exact ne_of_none e hA
  have lA : l ≠ Aa := by
    obtain ⟨us, e, _⟩ := T7
    exact ne_of_none e hA
  have C8 := C7.same sA
  have T8 := T7.same sA
  generalize upd H7 Aa (.lst []) = H8 at eA C8 T8 ⊢
  clear sA hA C7 T7
  refine ⟨8, rfl, by decide, by decide, ?_⟩
  refine for_range (lo := 0) (n := (8 : Int).toNat) (fun j σ H9 => C21 K R Tb c b0 (1 + q) rooms cs bs H9 ∧ T21 R n ks l H9 ∧ (∃ acc kss, H9 Aa = some (.lst acc) ∧ kss.length = j ∧ (∀ m ks', kss[m]? = some ks' → ∀ x, x ∈ ks' ↔ Rch g cs (oneB bs m) x) ∧ Paired (L21 R Aa n H9) acc kss) ∧ ∃ a7', σ = [some (.ref a), some (.ref R), some (.int (0 + (i : Int))), some (.int (1 + q)), some (.bl g), some (.ref l), some (.ref Aa), a7', a8, a9, a10, some (.int rooms), some (.ref c), some (.ref b0), a14, a15, a16, a17]) ⟨C8, T8, ⟨[], [], eA, rfl, fun m ks' e => (by cases e), .nil⟩, _, rfl⟩ ?_ ?_
  · rintro j σ H9 hj ⟨C9, T9, ⟨acc, kss, eA, lk, hks, pa⟩, a7', rfl⟩
    have hj : j < 8 := hj
    obtain ⟨bv, eb, lbv⟩ := C9.wb.lst
    have kj : ((0 : Int) + (j : Int)).toNat = j := by omega
    refine ⟨.inl ⟨rfl, _, SqL.of eA⟩, ?_⟩
    refine ⟨(by decide : 1 ≤ sizeLine), fun z1 hz1 => ?_⟩
    have s1 := same_new hz1 (.lst [.int 0])
    refine ⟨_, _, _, rfl, rfl, upd_same, by omega, by omega, Nat.le_of_lt (small1000 (by show 1 * ((0 : Int) + (j : Int)).toNat ≤ 1000; omega)), fun z2 hz2 => ?_⟩
    rw [rep_zero, kj]
    have s2 := s1.trans (same_new hz2 (.lst (List.replicate j (.int 0))))
    have e2 : upd (upd H9 z1 (.lst [.int 0])) z2 (.lst (List.replicate j (.int 0))) z2 = some (.lst (List.replicate j (.int 0))) := upd_same
    generalize upd (upd H9 z1 (.lst [.int 0])) z2 (.lst (List.replicate j (.int 0))) = Ha at s2 e2 ⊢
    clear s1 hz1 hz2
    refine ⟨_, rfl, _, rfl, b0, _, rfl, SqL.of (s2 _ _ eb), fun z3 hz3 => ?_⟩
    rw [cutV_mid (by omega) (by omega) (by omega), kj, show ((0 : Int) + (j : Int) + 1 - (0 + (j : Int))).toNat = 1 by omega]
    have s3 := s2.trans (same_new hz3 (.lst ((bv.drop j).take 1)))
    have e2 := same_new hz3 (.lst ((bv.drop j).take 1)) _ _ e2
    have e3 : upd Ha z3 (.lst ((bv.drop j).take 1)) z3 = some (.lst ((bv.drop j).take 1)) := upd_same
    generalize upd Ha z3 (.lst ((bv.drop j).take 1)) = Hb at s3 e2 e3 ⊢
    clear s2 hz3
    refine .inl ⟨_, _, _, _, rfl, rfl, e2, e3, Nat.le_of_lt (small1000 (by rw [List.length_replicate, List.length_take]; omega)), fun z4 hz4 => ?_⟩
    have s4 := s3.trans (same_new hz4 (.lst (List.replicate j (.int 0) ++ (bv.drop j).take 1)))
    have e4 : upd Hb z4 (.lst (List.replicate j (.int 0) ++ (bv.drop j).take 1)) z4 = some (.lst (List.replicate j (.int 0) ++ (bv.drop j).take 1)) := upd_same
    generalize upd Hb z4 (.lst (List.replicate j (.int 0) ++ (bv.drop j).take 1)) = Hc at s4 e4 ⊢
    clear s3 e2 e3 hz4
    refine ⟨(by decide : 1 ≤ sizeLine), fun z5 hz5 => ?_⟩
    have s5 := same_new hz5 (.lst [.int 0])
    refine ⟨_, _, _, rfl, rfl, upd_same, by omega, by omega, Nat.le_of_lt (small1000 (by show 1 * ((7 : Int) - (0 + (j : Int))).toNat ≤ 1000; omega)), fun z6 hz6 => ?_⟩
    rw [rep_zero, show ((7 : Int) - (0 + (j : Int))).toNat = 7 - j by omega]
    have s6 := s5.trans (same_new hz6 (.lst (List.replicate (7 - j) (.int 0))))
    have e6 : upd (upd Hc z5 (.lst [.int 0])) z6 (.lst (List.replicate (7 - j) (.int 0))) z6 = some (.lst (List.replicate (7 - j) (.int 0))) := upd_same
    have e4 := s6 _ _ e4
    have s6 := s4.trans s6
    generalize upd (upd Hc z5 (.lst [.int 0])) z6 (.lst (List.replicate (7 - j) (.int 0))) = Hd at s6 e6 e4 ⊢
    clear s4 s5 hz5 hz6
    refine .inl ⟨_, _, _, _, rfl, rfl, e4, e6, Nat.le_of_lt (small1000 (by rw [List.length_append, List.length_replicate, List.length_replicate, List.length_take]; omega)), fun z7 hz7 => ?_⟩
    have s7 := s6.trans (same_new hz7 (.lst (List.replicate j (.int 0) ++ (bv.drop j).take 1 ++ List.replicate (7 - j) (.int 0))))
    have e7 : upd Hd z7 (.lst (List.replicate j (.int 0) ++ (bv.drop j).take 1 ++ List.replicate (7 - j) (.int 0))) z7 = some (.lst (List.replicate j (.int 0) ++ (bv.drop j).take 1 ++ List.replicate (7 - j) (.int 0))) := upd_same
    generalize upd Hd z7 (.lst (List.replicate j (.int 0) ++ (bv.drop j).take 1 ++ List.replicate (7 - j) (.int 0))) = He at s7 e7 ⊢
    clear s6 e4 e6 hz7
    have Ce := C9.same s7
    have We : Wds (1 + q) (64 - 4 * rooms) He z7 (oneB bs j) := one_wds Ce.wb (s7 _ _ eb) e7
    refine ⟨(1 + q), rooms, c, z7, g, cs, oneB bs j, rfl, rm0, rm1, Ce.tb, Ce.wc, lc, We, one_len hj lb, fun l2 us2 ks2 Hf gf nl2 hk2 el2 pl2 => ?_⟩
    rw [hn] at pl2
    have Cf := Ce.gro gf
    have Tf := (T9.same s7).gro Ce.tb gf
    have eAe := s7 _ _ eA
    have eAf := gf.lst Ce.tb eAe
    have paf : Paired (L21 R Aa n Hf) acc kss := Paired.mapP pa fun _ _ ⟨l3, e3, t3, n3⟩ => ⟨l3, e3, (t3.same s7).gro Ce.tb gf, n3⟩
    have T2 : T21 R n ks2 l2 Hf := ⟨us2, el2, pl2, Ce.row.ne nl2⟩
    have n2 : l2 ≠ Aa := fun z => by rw [z, eAe] at nl2; cases nl2
    have la := Paired.length pa
    refine ⟨Aa, _, _, rfl, rfl, eAf, small1000 (by omega), ?_⟩
    refine ⟨Cf.fill AR cA bA eAf, Tf.fill lA eAf, ⟨acc ++ [.ref l2], kss ++ [ks2], upd_same, by rw [List.length_append, lk]; rfl, fun m ks' e x => ?_, ?_⟩, _, rfl⟩
    · by_cases hm : m < kss.length
      · rw [List.getElem?_append_left hm] at e
        exact hks m ks' e x
      · have hm2 : m = kss.length := by
          have := (List.getElem?_eq_some_iff.mp e).1
          rw [List.length_append, List.length_singleton] at this
          omega
        subst hm2
        rw [List.getElem?_append_right (Nat.le_refl _), Nat.sub_self] at e
        cases e
        rw [lk]
        exact hk2 x
    · exact paired_add (Paired.mapP paf fun _ _ ⟨l3, e3, t3, n3⟩ => ⟨l3, e3, t3.fill n3 eAf, n3⟩) ⟨l2, rfl, T2.fill n2 eAf, n2⟩
  rintro σ H9 ⟨C9, T9, ⟨acc, kss, eA, lk, hks, pa⟩, a7', rfl⟩
  have lk : kss.length = 8 := lk
  clear C8 T8
  -- together
  refine ⟨R, 8, rfl, C9.row, by decide, by decide, fun k8 H10 k80 k81 o10 => ?_⟩
  have C10 := C9.on o10
  have T10 := T9.on C9.row o10
  have eA := o10.at eA AR
  have pa : Paired (L21 R Aa n H10) acc kss := Paired.mapP pa fun _ _ ⟨l3, e3, t3, n3⟩ => ⟨l3, e3, t3.on C9.row o10, n3⟩
  clear o10 C9 T9
  refine ⟨Aa, n, kss, acc, rfl, eA, n64, by omega, Paired.mapP pa fun _ _ z => z.tld, fun l3 us3 H11 s11 nl3 el3 pl3 => ?_⟩
  have C11 := C10.same s11
  have T11 := T10.same s11
  clear pa eA C10 T10 s11 nl3
  have same : toldM kss.flatten n = toldM ks n := told_same2 (fun x => by
    rw [List.mem_flatten, hk x, rch_one]
    constructor
    · rintro ⟨ks', m, hx⟩
      obtain ⟨j, hj⟩ := List.getElem?_of_mem m
      have hl := (List.getElem?_eq_some_iff.mp hj).1
      exact ⟨j, by omega, (hks j ks' hj x).mp hx⟩
    · rintro ⟨j, hj, r⟩
      have hj' : j < kss.length := by omega
      exact ⟨kss[j], List.getElem_mem hj', (hks j _ (List.getElem?_eq_getElem hj') x).mpr r⟩) n
  obtain ⟨us, el, pl, _⟩ := id T11
  refine tV21 (v := .ref l) rfl (told_ne el3 pl3 el pl same ?_)
  refine ⟨_, rfl, iteF ?_⟩
  clear same hks el3 pl3 el pl
  -- boxes in another order
  obtain ⟨bv, eb, lbv⟩ := C11.wb.lst
  refine ⟨_, rfl, b0, _, rfl, SqL.of eb, fun z1 hz1 => ?_⟩
  rw [cutV_from21 (by omega) (by omega)]
  have s1 := same_new hz1 (.lst (bv.drop k8.toNat))
  have e1 : upd H11 z1 (.lst (bv.drop k8.toNat)) z1 = some (.lst (bv.drop k8.toNat)) := upd_same
  generalize upd H11 z1 (.lst (bv.drop k8.toNat)) = Ha at s1 e1 ⊢
  clear hz1
  refine ⟨_, rfl, b0, _, rfl, SqL.of (s1 _ _ eb), fun z2 hz2 => ?_⟩
  rw [cutV_to21 (by omega) (by omega)]
  have s2 := s1.trans (same_new hz2 (.lst (bv.take k8.toNat)))
  have e1 := same_new hz2 (.lst (bv.take k8.toNat)) _ _ e1
  have e2 : upd Ha z2 (.lst (bv.take k8.toNat)) z2 = some (.lst (bv.take k8.toNat)) := upd_same
  generalize upd Ha z2 (.lst (bv.take k8.toNat)) = Hb at s2 e1 e2 ⊢
  clear s1 hz2
  refine .inl ⟨_, _, _, _, rfl, rfl, e1, e2, Nat.le_of_lt (small1000 (by rw [List.length_drop, List.length_take]; omega)), fun z3 hz3 => ?_⟩
  have s3 := s2.trans (same_new hz3 (.lst (bv.drop k8.toNat ++ bv.take k8.toNat)))
  have e3 : upd Hb z3 (.lst (bv.drop k8.toNat ++ bv.take k8.toNat)) z3 = some (.lst (bv.drop k8.toNat ++ bv.take k8.toNat)) := upd_same
  generalize upd Hb z3 (.lst (bv.drop k8.toNat ++ bv.take k8.toNat)) = Hc at s3 e3 ⊢
  clear s2 e1 e2 hz3
  have C12 := C11.same s3
  have T12 := T11.same s3
  have W3 : Wds (1 + q) (64 - 4 * rooms) Hc z3 (bs.drop k8.toNat ++ bs.take k8.toNat) := turn_wds C12.wb (s3 _ _ eb) e3
  clear C11 T11 s3 e3 eb
  refine ⟨(1 + q), rooms, c, z3, g, cs, bs.drop k8.toNat ++ bs.take k8.toNat, rfl, rm0, rm1, C12.tb, C12.wc, lc, W3, (by rw [List.length_append, List.length_drop, List.length_take]; omega), fun l2 us2 ks2 H13 g13 nl2 hk2 el2 pl2 => ?_⟩
  rw [hn] at pl2
  have C13 := C12.gro g13
  have T13 := T12.gro C12.tb g13
  clear W3 C12 T12 g13 nl2
  obtain ⟨us, el, pl, _⟩ := id T13
  refine tV21 (v := .ref l) rfl (told_ne el2 pl2 el pl (told_same2 (fun x => by rw [hk2 x, hk x]; exact rch_turn) n) ?_)
  refine ⟨_, rfl, iteF ?_⟩
  clear el2 pl2 hk2 el pl
  -- without gates
  refine ⟨(1 + q), rooms, c, b0, false, cs, bs, rfl, rm0, rm1, C13.tb, C13.wc, lc, C13.wb, lb, fun l2 us2 kb H14 g14 nl2 hkb el2 pl2 => ?_⟩
  rw [hn] at pl2
  have C14 := C13.gro g14
  have T14 := T13.gro C13.tb g14
  have B14 : T21 R n kb l2 H14 := ⟨us2, el2, pl2, C13.row.ne nl2⟩
  clear C13 T13 g14 nl2 el2 pl2
  -- lesser words
  refine ⟨(by decide : 2 ≤ sizeLine), fun p hp => ?_⟩
  have sp := same_new hp (.lst [.ref c, .ref b0])
  have ep : upd H14 p (.lst [.ref c, .ref b0]) p = some (.lst [.ref c, .ref b0]) := upd_same
  have pR := C14.row.ne hp
  have C15 := C14.same sp
  have T15 := T14.same sp
  have B15 := B14.same sp
  generalize upd H14 p (.lst [.ref c, .ref b0]) = H15 at ep C15 T15 B15 ⊢
  clear sp hp C14 T14 B14
  refine ⟨p, rfl, ⟨_, SqL.of ep⟩, fun D hD => ?_⟩
  have DR := C15.row.ne hD
  refine lc_by (n := 2) (fun m H16 => On K R H15 H16 ∧ ∃ acc, H16 D = some (.lst acc) ∧ Paired (Lw21 R D (1 + q) (64 - 4 * rooms) H16) acc ([cs, bs].take m)) ⟨(On.refl C15.row).new hD _, [], upd_same, .nil⟩ ?_ ?_ ?_ ?_
  · rintro m H16 hm ⟨o16, _⟩
    exact ⟨_, _, SqL.of (o16.at ep pR), List.getElem?_eq_getElem (by exact hm)⟩
  · rintro H16 ⟨o16, _⟩
    exact ⟨_, SqL.of (o16.at ep pR), Nat.le_refl _⟩
  · rintro m H0 v H16 hm ⟨o16, acc, eD, pD⟩ ⟨rfl, hv⟩
    have hv := hv _ (SqL.of (o16.at ep pR))
    have C16 := C15.on o16
    obtain ⟨x, ws, rfl, ews, Wx, xR⟩ : ∃ x ws, v = .ref x ∧ [cs, bs][m]? = some ws ∧ Wds (1 + q) (64 - 4 * rooms) H16 x ws ∧ x ≠ R := by
      match m, hm, hv with
      | 0, _, e => exact ⟨c, cs, (Option.some.inj e).symm, rfl, C16.wc, C16.cR⟩
      | 1, _, e => exact ⟨b0, bs, (Option.some.inj e).symm, rfl, C16.wb, C16.bR⟩
    have lw : ws.length ≤ 64 := by
      match m, hm, ews with
      | 0, _, e => cases e; omega
      | 1, _, e => cases e; omega
    have row16 := C16.row
    clear C16 hv
    refine ⟨rfl, ?_⟩
    obtain ⟨⟨vs, ex, ix⟩, okx⟩ := id Wx
    have lvs := Paired.length ix
    refine ⟨x, rfl, ⟨_, SqL.of ex⟩, fun D2 hD2 => ?_⟩
    have D2R := row16.ne hD2
    have D2D : D2 ≠ D := fun z => by rw [z, eD] at hD2; cases hD2
    refine lc_by (n := vs.length) (fun j H17 => On K R H16 H17 ∧ ∃ ws', Wds (1 + q) (64 - 4 * rooms) H17 D2 ws' ∧ Paired Lsr ws' (ws.take j)) ⟨(On.refl row16).new hD2 _, [], Wds.nil upd_same, .nil⟩ ?_ ?_ ?_ ?_
    · rintro j H17 hj ⟨o17, _⟩
      exact ⟨_, _, SqL.of (o17.at ex xR), List.getElem?_eq_getElem hj⟩
    · rintro H17 ⟨o17, _⟩
      exact ⟨_, SqL.of (o17.at ex xR), Nat.le_refl _⟩
    · rintro j H0' v H17 hj ⟨o17, ws', W17, p17⟩ ⟨rfl, hv⟩
      have hv := hv _ (SqL.of (o17.at ex xR))
      obtain ⟨w0, v', e1, e2, iw⟩ := Paired.get2 (i := j) ix (by omega)
      rw [hv] at e2
      cases e2
      have okw := okx w0 (List.mem_of_getElem? e1)
      refine ⟨rfl, ?_⟩
      refine ⟨R, v, w0, (1 + q), 64 - 4 * rooms, rfl, o17.row, iw.tups (On.tups row16 o17), okw, wok_deep okw, by omega, fun v2 H18 y o18 iy oky ly => ?_⟩
      have W18 := W17.on o17.row o18 D2R
      obtain ⟨vs2, ev2, lv2⟩ := W18.lst
      have l17 := Paired.length p17
      rw [List.length_take] at l17
      refine ⟨vs2, ev2, small1000 (by omega), (o17.trans o18).fill hD2 D2R W18.soft _, ws' ++ [y], W18.add ev2 iy oky, ?_⟩
      rw [List.take_succ, e1]
      exact paired_add p17 ly
    · rintro H17 ⟨o17, ws', W17, p17⟩
      rw [List.take_of_length_le (by omega)] at p17
      have eD17 := o17.at eD DR
      have la := Paired.length pD
      rw [List.length_take] at la
      refine ⟨acc, eD17, small1000 (by omega), (o16.trans o17).fill hD DR (soft_lst eD17) _, acc ++ [.ref D2], upd_same, ?_⟩
      rw [List.take_succ, ews]
      have tp : Tups H17 (upd H17 D (.lst (acc ++ [.ref D2]))) := Tups.upd (soft_lst eD17)
      refine paired_add (Paired.mapP pD fun _ _ z => (z.on row16 o17).fill eD17) ⟨D2, ws', rfl, W17.go tp (fun o z => by rw [upd_ne D2D]; exact z), p17, D2R, D2D⟩
  rintro H16 ⟨o16, acc, eD, pD⟩
  have pD : Paired (Lw21 R D (1 + q) (64 - 4 * rooms) H16) acc [cs, bs] := pD
  obtain ⟨x0, x1, cs', bs', rfl, W0, P0, W1, P1⟩ : ∃ x0 x1 cs' bs', acc = [V.ref x0, .ref x1] ∧ Wds (1 + q) (64 - 4 * rooms) H16 x0 cs' ∧ Paired Lsr cs' cs ∧ Wds (1 + q) (64 - 4 * rooms) H16 x1 bs' ∧ Paired Lsr bs' bs := by
    cases pD with
    | cons h1 t1 =>
      cases t1 with
      | cons h2 t2 =>
        cases t2
        obtain ⟨x0, cs', rfl, a1, a2, _, _⟩ := h1
        obtain ⟨x1, bs', rfl, c1, c2, _, _⟩ := h2
        exact ⟨x0, x1, cs', bs', rfl, a1, a2, c1, c2⟩
  have C16 := C15.on o16
  have T16 := T15.on C15.row o16
  have B16 := B15.on C15.row o16
  clear C15 T15 B15 o16 ep hD pD
  have l0 := Paired.length P0
  have l1 := Paired.length P1
  refine .inl ⟨_, _, SqL.of eD, rfl, ?_⟩
  refine .inl ⟨_, _, SqL.of eD, rfl, ?_⟩
  refine ⟨(1 + q), rooms, x0, x1, g, cs', bs', rfl, rm0, rm1, C16.tb, W0, (by omega), W1, (by omega), fun l4 us4 kl H17 g17 nl4 hkl el4 pl4 => ?_⟩
  rw [l0, hn] at pl4
  have C17 := C16.gro g17
  have T17 := T16.gro C16.tb g17
  have B17 := B16.gro C16.tb g17
  have L17 : T21 R n kl l4 H17 := ⟨us4, el4, pl4, C16.row.ne nl4⟩
  have sub1 : ∀ c l, tl2 kl c l = true → tl2 ks c l = true := tl2_less fun k' hk' => by
    obtain ⟨k2, r2, le⟩ := rch_less P0 P1 ((hkl k').mp hk')
    exact ⟨k2, (hk k2).mpr r2, le⟩
  have eq2 : toldM (ks ++ kb) n = toldM ks n ∧ (g = false → toldM kb n = toldM ks n) := by
    constructor
    · refine told_sub (tl2_less fun k' hk' => ⟨k', (hk k').mpr ?_, KLe.refl _⟩) n
      have := (hkb k').mp hk'
      cases g with
      | true => exact rch_gates this
      | false => exact this
    · rintro rfl
      exact told_same2 (fun x => by rw [hkb x, hk x]) n
  clear W0 W1 P0 P1 l0 l1 eD C16 T16 B16 g17 nl4 el4 pl4 hkl
  -- told, less
  refine ⟨(by decide : 2 ≤ sizeLine), fun p2 hp2 => ?_⟩
  have sp := same_new hp2 (.lst [.ref l, .ref l4])
  have ep : upd H17 p2 (.lst [.ref l, .ref l4]) p2 = some (.lst [.ref l, .ref l4]) := upd_same
  have C18 := C17.same sp
  have T18 := T17.same sp
  have B18 := B17.same sp
  have L18 := L17.same sp
  generalize upd H17 p2 (.lst [.ref l, .ref l4]) = H18 at ep C18 T18 B18 L18 ⊢
  clear sp hp2 C17 T17 B17 L17
  refine ⟨p2, n, [ks, kl], _, rfl, ep, n64, (by show 2 ≤ 1000; decide), .cons T18.tld (.cons L18.tld .nil), fun l3 us3 H19 s19 nl3 el3 pl3 => ?_⟩
  have f1 : toldM ([ks, kl] : List (List Wd)).flatten n = toldM ks n := by
    rw [List.flatten_cons, List.flatten_cons, List.flatten_nil, List.append_nil]
    exact told_sub sub1 n
  have C19 := C18.same s19
  have T19 := T18.same s19
  have B19 := B18.same s19
  clear C18 T18 B18 L18 ep s19 nl3
  obtain ⟨us, el, pl, _⟩ := id T19
  refine tV21 (v := .ref l) rfl (told_ne el3 pl3 el pl f1 ?_)
  refine ⟨_, rfl, iteF ?_⟩
  clear f1 el3 pl3 el pl sub1
  -- told, bare
  refine ⟨(by decide : 2 ≤ sizeLine), fun p3 hp3 => ?_⟩
  have sp := same_new hp3 (.lst [.ref l, .ref l2])
  have ep : upd H19 p3 (.lst [.ref l, .ref l2]) p3 = some (.lst [.ref l, .ref l2]) := upd_same
  have C20 := C19.same sp
  have T20 := T19.same sp
  have B20 := B19.same sp
  generalize upd H19 p3 (.lst [.ref l, .ref l2]) = H20 at ep C20 T20 B20 ⊢
  clear sp hp3 C19 T19 B19
  refine ⟨p3, n, [ks, kb], _, rfl, ep, n64, (by show 2 ≤ 1000; decide), .cons T20.tld (.cons B20.tld .nil), fun l3 us3 H21 s21 nl3 el3 pl3 => ?_⟩
  have f2 : toldM ([ks, kb] : List (List Wd)).flatten n = toldM ks n := by
    rw [List.flatten_cons, List.flatten_cons, List.flatten_nil, List.append_nil]
    exact eq2.1
  have C21' := C20.same s21
  have T21' := T20.same s21
  have B21' := B20.same s21
  clear C20 T20 B20 ep s21 nl3
  obtain ⟨us, el, pl, _⟩ := id T21'
  obtain ⟨usb, elb, plb, _⟩ := id B21'
  refine ⟨g, rfl, ?_⟩
  refine ite_tv (x := l) (y := l2) rfl rfl ?_
  obtain ⟨usz, elz, plz⟩ : ∃ usz, H21 (if g = true then l else l2) = some (.lst usz) ∧ Paired (PrAt H21) (toldM ks n) usz := by
    cases g with
    | true => exact ⟨us, el, pl⟩
    | false => exact ⟨usb, elb, by rw [← eq2.2 rfl]; exact plb⟩
  refine told_ne el3 pl3 elz plz f2 ?_
  refine ⟨_, rfl, iteF ?_⟩
  clear elz plz el3 pl3 f2 eq2 el pl elb plb
  -- a cell, a letter
  refine ⟨R, 64, rfl, C21'.row, by decide, by decide, fun c64 H22 c640 c641 o22 => ?_⟩
  have C22 := C21'.on o22
  have B22 := B21'.on C21'.row o22
  clear T21' C21' B21' o22
  refine ⟨(by decide : 2 ≤ sizeLine), fun lp hlp => ?_⟩
  have sp := same_new hlp (.lst [.str "g", .str "s"])
  have ep : upd H22 lp (.lst [.str "g", .str "s"]) lp = some (.lst [.str "g", .str "s"]) := upd_same
  have lpR := C22.row.ne hlp
  have C23 := C22.same sp
  have B23 := B22.same sp
  generalize upd H22 lp (.lst [.str "g", .str "s"]) = H23 at ep C23 B23 ⊢
  clear sp hlp C22 B22
  refine ⟨R, 2, rfl, C23.row, by decide, by decide, fun n2 H24 n20 n21 o24 => ?_⟩
  have C24 := C23.on o24
  have B24 := B23.on C23.row o24
  have ep := o24.at ep lpR
  clear C23 B23 o24
  obtain ⟨ll, ell, hll⟩ : ∃ ll : Nat, atI [V.str (Str.ofString "g"), V.str (Str.ofString "s")] n2 = some (.str ⟨#[ll]⟩) ∧ (ll = 103 ∨ ll = 115) := by
    have e1 : Str.ofString "g" = ⟨#[103]⟩ := by decide +kernel
    have e2 : Str.ofString "s" = ⟨#[115]⟩ := by decide +kernel
    rw [e1, e2]
    obtain rfl | rfl : n2 = 0 ∨ n2 = 1 := by omega
    · exact ⟨103, rfl, .inl rfl⟩
    · exact ⟨115, rfl, .inr rfl⟩
  refine .inl ⟨_, _, SqL.of ep, ell, ?_⟩
  refine ⟨_, _, rfl, ?_⟩
  clear ep ell
  refine ⟨(1 + q), rooms, c64, c, b0, ll, cs, bs, rfl, rm0, rm1, by omega, by omega, C24.tb, C24.wc, lc, C24.wb, lb, c640, by omega, hll, fun v H25 g25 hv => ?_⟩
  have C25 := C24.gro g25
  have B25 := B24.gro C24.tb g25
  rcases hv with ⟨rfl, _⟩ | ⟨u, pu, vsu, vu, _, tu, rfl, _⟩
  · refine ⟨rfl, _, rfl, ?_⟩
    exact iteF' (by rfl) (iteF ⟨C25.row, C25.tb, _, _, _, _, _, _, _, _, _, _, _, _, _, _, _, _, rfl⟩)
  · refine ⟨rfl, _, rfl, ?_⟩
    refine iteT' (by rfl) ?_
    obtain ⟨usb, elb, plb, _⟩ := id B25
    obtain ⟨pp, rfl, pk⟩ := prs_kv (K := K) plb
    refine ⟨l2, pp, kvT (toldM kb n), rfl, SqL.of elb, pk, fun dd hdd => ?_⟩
    rw [told_mrg]
    have sd := same_new hdd (.dK (kvT (toldM kb n)))
    have ed : upd H25 dd (.dK (kvT (toldM kb n))) dd = some (.dK (kvT (toldM kb n))) := upd_same
    have C26 := C25.same sd
    generalize upd H25 dd (.dK (kvT (toldM kb n))) = H26 at ed C26 ⊢
    refine ⟨dd, rfl, .inl ⟨_, .inl ed⟩, ?_⟩
    refine ⟨_, DGet.k (k := .inl c64) ed, ?_⟩
    have ru := vu.rch
    have inb : u.key ∈ kb := (hkb _).mpr ru
    have cn : c64 < (n : Int) := by
      have o := (ru.ok C25.wc.ok C25.wb.ok).1
      revert tu o
      cases u.key with
      | num z => intro t; cases t
      | gate z w => intro t; cases t
      | key b e aa r =>
        intro t o
        unfold touchB at t
        simp only [Bool.and_eq_true, decide_eq_true_eq] at t
        obtain ⟨_, _, o3, _⟩ := o
        omega
    rw [told_lk kb n c640 cn]
    refine ⟨ll, _, rfl, rfl, _, rfl, ?_⟩
    have lin : ll ∈ (lettersM kb c64).cps.toList := by
      rw [letters_sgn]
      exact (sgn_mem _ _).mpr ⟨hll, List.any_eq_true.mpr ⟨_, inb, tu⟩⟩
    rw [decide_eq_true lin]
    exact iteF ⟨C26.row, C26.tb, _, _, _, _, _, _, _, _, _, _, _, _, _, _, _, _, rfl⟩
end
end Tm
set_option Elab.async false
set_option linter.all false
set_option maxRecDepth 100000
set_option maxHeartbeats 1000000
namespace Tm
open PySem L2
structure At (K : PySem.W.Frag) (x : Str) (st : Stmt) (f : Addr) (fd : FuncData) : Prop where
  ns : PySem.W.nsIn K mainGlobals x = some (some (.ref f))
  fn : FunD K x x st f fd
theorem atD_mk {K : PySem.W.Frag} {x : Str} {st : Stmt} {f Td : Addr} {oc : Value} {od an : Option Addr} {osl : Array (Option Value)} {kV doc pm cdv ct : Value} {o : Obj} {its : Array Value} {n : Nat} (a : PySem.W.nsIn K mainGlobals x = some (some (.ref f)))
    (l : K.lookup f = some ⟨oc, od, .func (PySem.W.fnOf x x (defArgs st) (defBody st) (defScope st) (.ref Td) kV doc pm an cdv ct), osl⟩) (c : PySem.W.codeIn K cdv x = true) (k : PySem.W.keepIn K (.ref f) = true)
    (l2 : K.lookup Td = some o) (hs : o.data = .seq its n) {ps : List Str}
    (hb : ∀ us : List Value, us.length = ps.length → ∃ j, bindArgs (PySem.W.fnOf x x (defArgs st) (defBody st) (defScope st) (.ref Td) kV doc pm an cdv ct) ⟨us, []⟩ = seqItems? (.ref Td) >>= j ∧ j (some its) = pure (ps.zip us)) :
    ∃ f fd, At K x st f fd ∧ Binds K fd ps [] :=
  ⟨f, _, ⟨a, ⟨⟨.ref Td, oc, od, kV, doc, pm, an, cdv, ct, osl, rfl, l, c⟩, k⟩⟩, fun s us hK hl => by
    rw [List.append_nil] at hl ⊢
    obtain ⟨j, h1, h2⟩ := hb us hl
    exact BindsTo.of_defaults rfl (hK _ _ l2) hs h1 h2⟩
end Tm
set_option Elab.async false
set_option linter.all false
set_option maxRecDepth 100000
set_option maxHeartbeats 1000000
namespace Tm
open PySem L2
theorem fn_mk {K : PySem.W.Frag} {x : Str} {st : Stmt} {f : Addr} {oc : Value} {od an : Option Addr} {osl : Array (Option Value)} {kV doc pm cdv ct : Value} (a : PySem.W.nsIn K mainGlobals x = some (some (.ref f)))
    (l : K.lookup f = some ⟨oc, od, .func (PySem.W.fnOf x x (defArgs st) (defBody st) (defScope st) .none kV doc pm an cdv ct), osl⟩) (c : PySem.W.codeIn K cdv x = true) (k : PySem.W.keepIn K (.ref f) = true) : ∃ f fd, PySem.W.nsIn K mainGlobals x = some (some (.ref f)) ∧ Fun K x x st f fd :=
  ⟨f, _, a, fun_mk l c k⟩
theorem df_mk {P : Program} {w : World} {K : PySem.W.Frag} {mg : Str → Option Value} {base : Heap} {x : Str} {st : Stmt} {f : Addr} {fd : FuncData} {ps : List Str} {k : Nat} {sp : Sp} (m : mg x = some (.ref f)) (F : Fun K x x st f fd)
    (b : ∀ (kV doc pm : Value) (an : Option Addr) (cdv ct : Value) (us : List Value), us.length = ps.length → bindArgs (PySem.W.fnOf x x (defArgs st) (defBody st) (defScope st) .none kV doc pm an cdv ct) ⟨us, []⟩ = pure (ps.zip us)) (ok : FnOk P w K mg base CX0 k f fd ps sp) : Df P w K mg base k x ps [] sp :=
  ⟨f, fd, [], ok, m, F.kp, F.binds b, .nil⟩
theorem tp_mk {K : PySem.W.Frag} {x : Str} {t : Addr} {o : Obj} {its : Array Value} {n : Nat} {xs : List V} (a : PySem.W.nsIn K mainGlobals x = some (some (.ref t))) (l : K.lookup t = some o) (c : o.cls = .type "tuple") (d : o.data = .seq its n) (z : its.size ≤ sizeLine) (v : Vals xs its.toList) :
    ∃ t, PySem.W.nsIn K mainGlobals x = some (some (.ref t)) ∧ ∀ H, SqT K H t xs := ⟨t, a, fun H => .inr ⟨o, its, n, l, c, d, z, v⟩⟩
theorem ci_mk {K : PySem.W.Frag} {x : Str} {i : Int} {t : Tok} (a : PySem.W.nsIn K mainGlobals x = some (some (.int i t))) : ∃ t, PySem.W.nsIn K mainGlobals x = some (some (.int i t)) := ⟨t, a⟩
theorem cs_mk {K : PySem.W.Frag} {x z : Str} {t : Tok} (a : PySem.W.nsIn K mainGlobals x = some (some (.str z t))) : ∃ t, PySem.W.nsIn K mainGlobals x = some (some (.str z t)) := ⟨t, a⟩
theorem binds1 {K : PySem.W.Frag} {x p : Str} {st : Stmt} {f : Addr} {fd : FuncData} (F : Fun K x x st f fd)
    (b : ∀ (kV doc pm : Value) (an : Option Addr) (cdv ct : Value) (us : List Value), us.length = [p].length → bindArgs (PySem.W.fnOf x x (defArgs st) (defBody st) (defScope st) .none kV doc pm an cdv ct) ⟨us, []⟩ = pure ([p].zip us)) (s : Shared) (u : Value) : BindsTo s fd ⟨[u], []⟩ [(p, u)] := by
  obtain ⟨oc, od, kV, doc, pm, an, cdv, ct, osl, rfl, lk, hcd⟩ := F.ex
  exact .of_eq (b kV doc pm an cdv ct [u] rfl)
end Tm
set_option Elab.async false
set_option linter.all false
set_option maxRecDepth 100000
set_option maxHeartbeats 1000000
namespace Tm
open PySem L2
theorem fnC_mk {K : PySem.W.Frag} {x : Str} {st : Stmt} {f c T : Addr} {oc : Value} {od an : Option Addr} {osl : Array (Option Value)} {kV doc pm ct : Value} (a : PySem.W.nsIn K mainGlobals x = some (some (.ref f)))
    (l : K.lookup f = some ⟨oc, od, .func (PySem.W.fnOf x x (defArgs st) (defBody st) (defScope st) .none kV doc pm an (.ref c) ct), osl⟩) (h : PySem.W.codeIn K (.ref c) x = true) (k : PySem.W.keepIn K (.ref f) = true) (hd : PySem.W.codeHdIn K c T = true) :
    ∃ f fd, PySem.W.nsIn K mainGlobals x = some (some (.ref f)) ∧ Fun K x x st f fd ∧ ∃ c, fd.code = .ref c ∧ PySem.W.codeHdIn K c T = true :=
  ⟨f, _, a, fun_mk l h k, c, rfl, hd⟩
theorem dfD_mk {P : Program} {w : World} {K : PySem.W.Frag} {mg : Str → Option Value} {base : Heap} {x : Str} {st : Stmt} {f : Addr} {fd : FuncData} {ps : List Str} {k : Nat} {sp : Sp} (m : mg x = some (.ref f)) (F : At K x st f fd) (b : Binds K fd ps []) (ok : FnOk P w K mg base CX0 k f fd ps sp) : Df P w K mg base k x ps [] sp :=
  ⟨f, fd, [], ok, m, F.fn.kp, b, .nil⟩
theorem frz_onlyT {K : PySem.W.Frag} {H : Hp} {a : Addr} {xs : List V} {ts : List Addr} (hO : OnlyT ts H) (hS : SqL K H a xs) : Frz K H a xs := by
  rcases hS with (h | ⟨o, h⟩) | h
  · rcases hO.all a with z | ⟨o, ys, z⟩ | ⟨_, z⟩
    · rw [h] at z
      cases z
    · rw [h] at z
      cases z
    · rw [h] at z
      cases z
  · exact .inl ⟨o, h⟩
  · exact .inr h
end Tm
set_option Elab.async false
set_option linter.all false
set_option maxRecDepth 100000
set_option maxHeartbeats 0
set_option pp.maxSteps 60
set_option pp.deepTerms false
open PySem L2 Tm
theorem PySem.Challenge.cw_tagmachine_k21_whole_each_word_by_itself_holds : PySem.Challenge.rw_tagmachine_k21_whole_each_word_by_itself.Holds :=
  head (by
    k_fill
    refine L2.walk_ofT (l := PySem.Challenge.rw_tagmachine_k21_whole_each_word_by_itself) (n := 63) (k := 10) (x := "_law_script") (sp := spLaw 166) (ts := [166]) rfl (by decide) rfl ⟨rfl, by decide, by decide⟩ (fun w h Y => PySem.W.km_in_of Y) (fun w h Y => PySem.W.km_tabs_of Y) ?C ?L ?F ?S
    case C =>
      intro w T hT
      cases List.mem_singleton.mp hT
      first | exact ⟨167, rfl⟩ | exact ⟨165, rfl⟩ | exact ⟨168, rfl⟩ | exact ⟨164, rfl⟩ | exact ⟨169, rfl⟩ | exact ⟨163, rfl⟩ | exact ⟨170, rfl⟩ | exact ⟨162, rfl⟩ | exact ⟨171, rfl⟩ | exact ⟨161, rfl⟩ | exact ⟨172, rfl⟩ | exact ⟨160, rfl⟩ | exact ⟨173, rfl⟩ | exact ⟨174, rfl⟩
    case L =>
      intro w T hT
      cases List.mem_singleton.mp hT
      kernel_rfl
    case F =>
      intro w mg fa h KX G hmg
      obtain ⟨f_is_whole, fd_is_whole, a_is_whole, F_is_whole⟩ : ∃ f fd, PySem.W.nsIn (L2.KOf KX) mainGlobals "is_whole" = some (some (.ref f)) ∧ Fun (L2.KOf KX) "is_whole" "is_whole" s_is_whole f fd := by
        dsimp only [L2.KOf]
        refine' fn_mk ?a ?l ?c ?k
        (case a => k_is)
        (case l => k_is)
        (case c => k_is)
        (case k => k_is)
      obtain ⟨f_is_number, fd_is_number, a_is_number, F_is_number⟩ : ∃ f fd, PySem.W.nsIn (L2.KOf KX) mainGlobals "is_number" = some (some (.ref f)) ∧ Fun (L2.KOf KX) "is_number" "is_number" s_is_number f fd := by
        dsimp only [L2.KOf]
        refine' fn_mk ?a ?l ?c ?k
        (case a => k_is)
        (case l => k_is)
        (case c => k_is)
        (case k => k_is)
      obtain ⟨f_common_rights, fd_common_rights, a_common_rights, F_common_rights⟩ : ∃ f fd, PySem.W.nsIn (L2.KOf KX) mainGlobals "common_rights" = some (some (.ref f)) ∧ Fun (L2.KOf KX) "common_rights" "common_rights" s_common_rights f fd := by
        dsimp only [L2.KOf]
        refine' fn_mk ?a ?l ?c ?k
        (case a => k_is)
        (case l => k_is)
        (case c => k_is)
        (case k => k_is)
      obtain ⟨f_is_rights, fd_is_rights, a_is_rights, F_is_rights⟩ : ∃ f fd, PySem.W.nsIn (L2.KOf KX) mainGlobals "is_rights" = some (some (.ref f)) ∧ Fun (L2.KOf KX) "is_rights" "is_rights" s_is_rights f fd := by
        dsimp only [L2.KOf]
        refine' fn_mk ?a ?l ?c ?k
        (case a => k_is)
        (case l => k_is)
        (case c => k_is)
        (case k => k_is)
      obtain ⟨f_is_tagged, fd_is_tagged, a_is_tagged, F_is_tagged⟩ : ∃ f fd, PySem.W.nsIn (L2.KOf KX) mainGlobals "is_tagged" = some (some (.ref f)) ∧ Fun (L2.KOf KX) "is_tagged" "is_tagged" s_is_tagged f fd := by
        dsimp only [L2.KOf]
        refine' fn_mk ?a ?l ?c ?k
        (case a => k_is)
        (case l => k_is)
        (case c => k_is)
        (case k => k_is)
      obtain ⟨f_is_key, fd_is_key, F_is_key, B_is_key⟩ : ∃ f fd, At (L2.KOf KX) "is_key" s_is_key f fd ∧ Binds (L2.KOf KX) fd P_is_key [] := by
        dsimp only [L2.KOf]
        refine' Tm.atD_mk ?a ?l ?c ?k ?l2 ?hs ?hb
        (case a => k_is)
        (case l => k_is)
        (case c => k_is)
        (case k => k_is)
        (case l2 => k_is)
        (case hs => exact rfl)
        (case hb => exact fun us hl => match us, hl with | [_, _], _ => ⟨_, rfl, rfl⟩)
      obtain ⟨f_is_gate, fd_is_gate, F_is_gate, B_is_gate⟩ : ∃ f fd, At (L2.KOf KX) "is_gate" s_is_gate f fd ∧ Binds (L2.KOf KX) fd P_is_gate [] := by
        dsimp only [L2.KOf]
        refine' Tm.atD_mk ?a ?l ?c ?k ?l2 ?hs ?hb
        (case a => k_is)
        (case l => k_is)
        (case c => k_is)
        (case k => k_is)
        (case l2 => k_is)
        (case hs => exact rfl)
        (case hb => exact fun us hl => match us, hl with | [_, _, _], _ => ⟨_, rfl, rfl⟩)
      obtain ⟨f_is_word, fd_is_word, F_is_word, B_is_word⟩ : ∃ f fd, At (L2.KOf KX) "is_word" s_is_word f fd ∧ Binds (L2.KOf KX) fd P_is_word [] := by
        dsimp only [L2.KOf]
        refine' Tm.atD_mk ?a ?l ?c ?k ?l2 ?hs ?hb
        (case a => k_is)
        (case l => k_is)
        (case c => k_is)
        (case k => k_is)
        (case l2 => k_is)
        (case hs => exact rfl)
        (case hb => exact fun us hl => match us, hl with | [_, _, _], _ => ⟨_, rfl, rfl⟩)
      obtain ⟨f_kind_of, fd_kind_of, a_kind_of, F_kind_of⟩ : ∃ f fd, PySem.W.nsIn (L2.KOf KX) mainGlobals "kind_of" = some (some (.ref f)) ∧ Fun (L2.KOf KX) "kind_of" "kind_of" s_kind_of f fd := by
        dsimp only [L2.KOf]
        refine' fn_mk ?a ?l ?c ?k
        (case a => k_is)
        (case l => k_is)
        (case c => k_is)
        (case k => k_is)
      obtain ⟨f_check_rooms, fd_check_rooms, a_check_rooms, F_check_rooms⟩ : ∃ f fd, PySem.W.nsIn (L2.KOf KX) mainGlobals "check_rooms" = some (some (.ref f)) ∧ Fun (L2.KOf KX) "check_rooms" "check_rooms" s_check_rooms f fd := by
        dsimp only [L2.KOf]
        refine' fn_mk ?a ?l ?c ?k
        (case a => k_is)
        (case l => k_is)
        (case c => k_is)
        (case k => k_is)
      obtain ⟨f_kept_cells, fd_kept_cells, a_kept_cells, F_kept_cells⟩ : ∃ f fd, PySem.W.nsIn (L2.KOf KX) mainGlobals "kept_cells" = some (some (.ref f)) ∧ Fun (L2.KOf KX) "kept_cells" "kept_cells" s_kept_cells f fd := by
        dsimp only [L2.KOf]
        refine' fn_mk ?a ?l ?c ?k
        (case a => k_is)
        (case l => k_is)
        (case c => k_is)
        (case k => k_is)
      obtain ⟨f_check_list, fd_check_list, a_check_list, F_check_list⟩ : ∃ f fd, PySem.W.nsIn (L2.KOf KX) mainGlobals "check_list" = some (some (.ref f)) ∧ Fun (L2.KOf KX) "check_list" "check_list" s_check_list f fd := by
        dsimp only [L2.KOf]
        refine' fn_mk ?a ?l ?c ?k
        (case a => k_is)
        (case l => k_is)
        (case c => k_is)
        (case k => k_is)
      obtain ⟨f_check_words, fd_check_words, a_check_words, F_check_words, cd_check_words, hcode_check_words, hcd_check_words⟩ : ∃ f fd, PySem.W.nsIn (L2.KOf KX) mainGlobals "check_words" = some (some (.ref f)) ∧ Fun (L2.KOf KX) "check_words" "check_words" s_check_words f fd ∧ ∃ c, fd.code = .ref c ∧ PySem.W.codeHdIn (L2.KOf KX) c 166 = true := by
        dsimp only [L2.KOf]
        refine' fnC_mk ?a ?l ?c ?k ?h
        (case a => k_is)
        (case l => k_is)
        (case c => k_is)
        (case k => k_is)
        (case h => kernel_rfl)
      obtain ⟨f_taken, fd_taken, a_taken, F_taken⟩ : ∃ f fd, PySem.W.nsIn (L2.KOf KX) mainGlobals "taken" = some (some (.ref f)) ∧ Fun (L2.KOf KX) "taken" "taken" s_taken f fd := by
        dsimp only [L2.KOf]
        refine' fn_mk ?a ?l ?c ?k
        (case a => k_is)
        (case l => k_is)
        (case c => k_is)
        (case k => k_is)
      obtain ⟨f_key_by, fd_key_by, a_key_by, F_key_by⟩ : ∃ f fd, PySem.W.nsIn (L2.KOf KX) mainGlobals "key_by" = some (some (.ref f)) ∧ Fun (L2.KOf KX) "key_by" "key_by" s_key_by f fd := by
        dsimp only [L2.KOf]
        refine' fn_mk ?a ?l ?c ?k
        (case a => k_is)
        (case l => k_is)
        (case c => k_is)
        (case k => k_is)
      obtain ⟨f_shown_cells, fd_shown_cells, a_shown_cells, F_shown_cells⟩ : ∃ f fd, PySem.W.nsIn (L2.KOf KX) mainGlobals "shown_cells" = some (some (.ref f)) ∧ Fun (L2.KOf KX) "shown_cells" "shown_cells" s_shown_cells f fd := by
        dsimp only [L2.KOf]
        refine' fn_mk ?a ?l ?c ?k
        (case a => k_is)
        (case l => k_is)
        (case c => k_is)
        (case k => k_is)
      obtain ⟨f_first_ways, fd_first_ways, a_first_ways, F_first_ways⟩ : ∃ f fd, PySem.W.nsIn (L2.KOf KX) mainGlobals "first_ways" = some (some (.ref f)) ∧ Fun (L2.KOf KX) "first_ways" "first_ways" s_first_ways f fd := by
        dsimp only [L2.KOf]
        refine' fn_mk ?a ?l ?c ?k
        (case a => k_is)
        (case l => k_is)
        (case c => k_is)
        (case k => k_is)
      obtain ⟨f_all_ways, fd_all_ways, a_all_ways, F_all_ways⟩ : ∃ f fd, PySem.W.nsIn (L2.KOf KX) mainGlobals "all_ways" = some (some (.ref f)) ∧ Fun (L2.KOf KX) "all_ways" "all_ways" s_all_ways f fd := by
        dsimp only [L2.KOf]
        refine' fn_mk ?a ?l ?c ?k
        (case a => k_is)
        (case l => k_is)
        (case c => k_is)
        (case k => k_is)
      obtain ⟨f_touches, fd_touches, a_touches, F_touches⟩ : ∃ f fd, PySem.W.nsIn (L2.KOf KX) mainGlobals "touches" = some (some (.ref f)) ∧ Fun (L2.KOf KX) "touches" "touches" s_touches f fd := by
        dsimp only [L2.KOf]
        refine' fn_mk ?a ?l ?c ?k
        (case a => k_is)
        (case l => k_is)
        (case c => k_is)
        (case k => k_is)
      obtain ⟨f_letters_for, fd_letters_for, a_letters_for, F_letters_for⟩ : ∃ f fd, PySem.W.nsIn (L2.KOf KX) mainGlobals "letters_for" = some (some (.ref f)) ∧ Fun (L2.KOf KX) "letters_for" "letters_for" s_letters_for f fd := by
        dsimp only [L2.KOf]
        refine' fn_mk ?a ?l ?c ?k
        (case a => k_is)
        (case l => k_is)
        (case c => k_is)
        (case k => k_is)
      obtain ⟨f_reach, fd_reach, a_reach, F_reach⟩ : ∃ f fd, PySem.W.nsIn (L2.KOf KX) mainGlobals "reach" = some (some (.ref f)) ∧ Fun (L2.KOf KX) "reach" "reach" s_reach f fd := by
        dsimp only [L2.KOf]
        refine' fn_mk ?a ?l ?c ?k
        (case a => k_is)
        (case l => k_is)
        (case c => k_is)
        (case k => k_is)
      obtain ⟨f_check_touch, fd_check_touch, a_check_touch, F_check_touch⟩ : ∃ f fd, PySem.W.nsIn (L2.KOf KX) mainGlobals "check_touch" = some (some (.ref f)) ∧ Fun (L2.KOf KX) "check_touch" "check_touch" s_check_touch f fd := by
        dsimp only [L2.KOf]
        refine' fn_mk ?a ?l ?c ?k
        (case a => k_is)
        (case l => k_is)
        (case c => k_is)
        (case k => k_is)
      obtain ⟨f_move_rows, fd_move_rows, a_move_rows, F_move_rows⟩ : ∃ f fd, PySem.W.nsIn (L2.KOf KX) mainGlobals "move_rows" = some (some (.ref f)) ∧ Fun (L2.KOf KX) "move_rows" "move_rows" s_move_rows f fd := by
        dsimp only [L2.KOf]
        refine' fn_mk ?a ?l ?c ?k
        (case a => k_is)
        (case l => k_is)
        (case c => k_is)
        (case k => k_is)
      obtain ⟨f_way_rows, fd_way_rows, a_way_rows, F_way_rows⟩ : ∃ f fd, PySem.W.nsIn (L2.KOf KX) mainGlobals "way_rows" = some (some (.ref f)) ∧ Fun (L2.KOf KX) "way_rows" "way_rows" s_way_rows f fd := by
        dsimp only [L2.KOf]
        refine' fn_mk ?a ?l ?c ?k
        (case a => k_is)
        (case l => k_is)
        (case c => k_is)
        (case k => k_is)
      obtain ⟨f_touching, fd_touching, a_touching, F_touching⟩ : ∃ f fd, PySem.W.nsIn (L2.KOf KX) mainGlobals "touching" = some (some (.ref f)) ∧ Fun (L2.KOf KX) "touching" "touching" s_touching f fd := by
        dsimp only [L2.KOf]
        refine' fn_mk ?a ?l ?c ?k
        (case a => k_is)
        (case l => k_is)
        (case c => k_is)
        (case k => k_is)
      obtain ⟨f_law_taken, fd_law_taken, a_law_taken, F_law_taken⟩ : ∃ f fd, PySem.W.nsIn (L2.KOf KX) mainGlobals "_law_taken" = some (some (.ref f)) ∧ Fun (L2.KOf KX) "_law_taken" "_law_taken" s_law_taken f fd := by
        dsimp only [L2.KOf]
        refine' fn_mk ?a ?l ?c ?k
        (case a => k_is)
        (case l => k_is)
        (case c => k_is)
        (case k => k_is)
      obtain ⟨f_law_number, fd_law_number, a_law_number, F_law_number⟩ : ∃ f fd, PySem.W.nsIn (L2.KOf KX) mainGlobals "_law_number" = some (some (.ref f)) ∧ Fun (L2.KOf KX) "_law_number" "_law_number" s_law_number f fd := by
        dsimp only [L2.KOf]
        refine' fn_mk ?a ?l ?c ?k
        (case a => k_is)
        (case l => k_is)
        (case c => k_is)
        (case k => k_is)
      obtain ⟨f_law_rights, fd_law_rights, a_law_rights, F_law_rights⟩ : ∃ f fd, PySem.W.nsIn (L2.KOf KX) mainGlobals "_law_rights" = some (some (.ref f)) ∧ Fun (L2.KOf KX) "_law_rights" "_law_rights" s_law_rights f fd := by
        dsimp only [L2.KOf]
        refine' fn_mk ?a ?l ?c ?k
        (case a => k_is)
        (case l => k_is)
        (case c => k_is)
        (case k => k_is)
      obtain ⟨f_law_key, fd_law_key, a_law_key, F_law_key⟩ : ∃ f fd, PySem.W.nsIn (L2.KOf KX) mainGlobals "_law_key" = some (some (.ref f)) ∧ Fun (L2.KOf KX) "_law_key" "_law_key" s_law_key f fd := by
        dsimp only [L2.KOf]
        refine' fn_mk ?a ?l ?c ?k
        (case a => k_is)
        (case l => k_is)
        (case c => k_is)
        (case k => k_is)
      obtain ⟨f_law_one, fd_law_one, a_law_one, F_law_one⟩ : ∃ f fd, PySem.W.nsIn (L2.KOf KX) mainGlobals "_law_one" = some (some (.ref f)) ∧ Fun (L2.KOf KX) "_law_one" "_law_one" s_law_one f fd := by
        dsimp only [L2.KOf]
        refine' fn_mk ?a ?l ?c ?k
        (case a => k_is)
        (case l => k_is)
        (case c => k_is)
        (case k => k_is)
      obtain ⟨f_law_nearly, fd_law_nearly, a_law_nearly, F_law_nearly⟩ : ∃ f fd, PySem.W.nsIn (L2.KOf KX) mainGlobals "_law_nearly" = some (some (.ref f)) ∧ Fun (L2.KOf KX) "_law_nearly" "_law_nearly" s_law_nearly f fd := by
        dsimp only [L2.KOf]
        refine' fn_mk ?a ?l ?c ?k
        (case a => k_is)
        (case l => k_is)
        (case c => k_is)
        (case k => k_is)
      obtain ⟨f_law_state, fd_law_state, a_law_state, F_law_state⟩ : ∃ f fd, PySem.W.nsIn (L2.KOf KX) mainGlobals "_law_state" = some (some (.ref f)) ∧ Fun (L2.KOf KX) "_law_state" "_law_state" s_law_state f fd := by
        dsimp only [L2.KOf]
        refine' fn_mk ?a ?l ?c ?k
        (case a => k_is)
        (case l => k_is)
        (case c => k_is)
        (case k => k_is)
      obtain ⟨f_law_chained, fd_law_chained, a_law_chained, F_law_chained⟩ : ∃ f fd, PySem.W.nsIn (L2.KOf KX) mainGlobals "_law_chained" = some (some (.ref f)) ∧ Fun (L2.KOf KX) "_law_chained" "_law_chained" s_law_chained f fd := by
        dsimp only [L2.KOf]
        refine' fn_mk ?a ?l ?c ?k
        (case a => k_is)
        (case l => k_is)
        (case c => k_is)
        (case k => k_is)
      obtain ⟨f_law_lesser, fd_law_lesser, a_law_lesser, F_law_lesser⟩ : ∃ f fd, PySem.W.nsIn (L2.KOf KX) mainGlobals "_law_lesser" = some (some (.ref f)) ∧ Fun (L2.KOf KX) "_law_lesser" "_law_lesser" s_law_lesser f fd := by
        dsimp only [L2.KOf]
        refine' fn_mk ?a ?l ?c ?k
        (case a => k_is)
        (case l => k_is)
        (case c => k_is)
        (case k => k_is)
      obtain ⟨f_law_together, fd_law_together, a_law_together, F_law_together⟩ : ∃ f fd, PySem.W.nsIn (L2.KOf KX) mainGlobals "_law_together" = some (some (.ref f)) ∧ Fun (L2.KOf KX) "_law_together" "_law_together" s_law_together f fd := by
        dsimp only [L2.KOf]
        refine' fn_mk ?a ?l ?c ?k
        (case a => k_is)
        (case l => k_is)
        (case c => k_is)
        (case k => k_is)
      obtain ⟨f_law, fd_law, a_law, F_law⟩ : ∃ f fd, PySem.W.nsIn (L2.KOf KX) mainGlobals "law" = some (some (.ref f)) ∧ Fun (L2.KOf KX) "law" "law" s_law f fd := by
        dsimp only [L2.KOf]
        refine' fn_mk ?a ?l ?c ?k
        (case a => k_is)
        (case l => k_is)
        (case c => k_is)
        (case k => k_is)
      have b_len : PySem.W.nsIn (L2.KOf KX) mainGlobals "len" = some none := by
        dsimp only [L2.KOf]
        k_is
      have b_range : PySem.W.nsIn (L2.KOf KX) mainGlobals "range" = some none := by
        dsimp only [L2.KOf]
        k_is
      have b_isinstance : PySem.W.nsIn (L2.KOf KX) mainGlobals "isinstance" = some none := by
        dsimp only [L2.KOf]
        k_is
      have b_int : PySem.W.nsIn (L2.KOf KX) mainGlobals "int" = some none := by
        dsimp only [L2.KOf]
        k_is
      have b_bool : PySem.W.nsIn (L2.KOf KX) mainGlobals "bool" = some none := by
        dsimp only [L2.KOf]
        k_is
      have b_str : PySem.W.nsIn (L2.KOf KX) mainGlobals "str" = some none := by
        dsimp only [L2.KOf]
        k_is
      have b_tuple : PySem.W.nsIn (L2.KOf KX) mainGlobals "tuple" = some none := by
        dsimp only [L2.KOf]
        k_is
      have b_list : PySem.W.nsIn (L2.KOf KX) mainGlobals "list" = some none := by
        dsimp only [L2.KOf]
        k_is
      have b_dict : PySem.W.nsIn (L2.KOf KX) mainGlobals "dict" = some none := by
        dsimp only [L2.KOf]
        k_is
      have b_min : PySem.W.nsIn (L2.KOf KX) mainGlobals "min" = some none := by
        dsimp only [L2.KOf]
        k_is
      have b_max : PySem.W.nsIn (L2.KOf KX) mainGlobals "max" = some none := by
        dsimp only [L2.KOf]
        k_is
      have b_all : PySem.W.nsIn (L2.KOf KX) mainGlobals "all" = some none := by
        dsimp only [L2.KOf]
        k_is
      have b_any : PySem.W.nsIn (L2.KOf KX) mainGlobals "any" = some none := by
        dsimp only [L2.KOf]
        k_is
      have b_enumerate : PySem.W.nsIn (L2.KOf KX) mainGlobals "enumerate" = some none := by
        dsimp only [L2.KOf]
        k_is
      have b_zip : PySem.W.nsIn (L2.KOf KX) mainGlobals "zip" = some none := by
        dsimp only [L2.KOf]
        k_is
      have b_sorted : PySem.W.nsIn (L2.KOf KX) mainGlobals "sorted" = some none := by
        dsimp only [L2.KOf]
        k_is
      have b_set : PySem.W.nsIn (L2.KOf KX) mainGlobals "set" = some none := by
        dsimp only [L2.KOf]
        k_is
      obtain ⟨t_LEAST, c_LEAST⟩ : ∃ t, PySem.W.nsIn (L2.KOf KX) mainGlobals "LEAST" = some (some (.int (-10000) t)) := by
        dsimp only [L2.KOf]
        refine' ci_mk ?a
        (case a => k_is)
      obtain ⟨t_MOST, c_MOST⟩ : ∃ t, PySem.W.nsIn (L2.KOf KX) mainGlobals "MOST" = some (some (.int 9999 t)) := by
        dsimp only [L2.KOf]
        refine' ci_mk ?a
        (case a => k_is)
      obtain ⟨t_RIGHTS, c_RIGHTS⟩ : ∃ t, PySem.W.nsIn (L2.KOf KX) mainGlobals "RIGHTS" = some (some (.str "ghls" t)) := by
        dsimp only [L2.KOf]
        refine' cs_mk ?a
        (case a => k_is)
      obtain ⟨t_CELLS, c_CELLS⟩ : ∃ t, PySem.W.nsIn (L2.KOf KX) mainGlobals "CELLS" = some (some (.int 64 t)) := by
        dsimp only [L2.KOf]
        refine' ci_mk ?a
        (case a => k_is)
      obtain ⟨t_BOXES, c_BOXES⟩ : ∃ t, PySem.W.nsIn (L2.KOf KX) mainGlobals "BOXES" = some (some (.int 8 t)) := by
        dsimp only [L2.KOf]
        refine' ci_mk ?a
        (case a => k_is)
      obtain ⟨t_MOST_ROOMS, c_MOST_ROOMS⟩ : ∃ t, PySem.W.nsIn (L2.KOf KX) mainGlobals "MOST_ROOMS" = some (some (.int 12 t)) := by
        dsimp only [L2.KOf]
        refine' ci_mk ?a
        (case a => k_is)
      obtain ⟨t_ROOM_CELLS, c_ROOM_CELLS⟩ : ∃ t, PySem.W.nsIn (L2.KOf KX) mainGlobals "ROOM_CELLS" = some (some (.int 4 t)) := by
        dsimp only [L2.KOf]
        refine' ci_mk ?a
        (case a => k_is)
      obtain ⟨t_STRETCH, c_STRETCH⟩ : ∃ t, PySem.W.nsIn (L2.KOf KX) mainGlobals "STRETCH" = some (some (.int 20000 t)) := by
        dsimp only [L2.KOf]
        refine' ci_mk ?a
        (case a => k_is)
      obtain ⟨t_MOST_KEYS, c_MOST_KEYS⟩ : ∃ t, PySem.W.nsIn (L2.KOf KX) mainGlobals "MOST_KEYS" = some (some (.int 9 t)) := by
        dsimp only [L2.KOf]
        refine' ci_mk ?a
        (case a => k_is)
      obtain ⟨p_LETTERS, n_LETTERS, t_LETTERS⟩ : ∃ t, PySem.W.nsIn (L2.KOf KX) mainGlobals "LETTERS" = some (some (.ref t)) ∧ ∀ H, SqT (L2.KOf KX) H t [.str "g", .str "s"] := by
        dsimp only [L2.KOf]
        refine' tp_mk ?a ?l ?c ?d ?z ?v
        (case a => k_is)
        (case l => k_is)
        (case c => exact rfl)
        (case d => exact rfl)
        (case z => decide)
        (case v => exact .cons ⟨_, rfl⟩ (.cons ⟨_, rfl⟩ (.nil)))
      have e0 := hmg.symm.trans (PySem.W.mg_of KX G a_law)
      cases e0
      clear hmg
      refine' ⟨fd_law, ?b, fun base kb nb hB => ?c⟩
      (case b => exact binds1 F_law (fun _ _ _ _ _ _ us hl => match us, hl with | [_], _ => rfl))
      have M : ∀ {x : Str} {o : Value}, PySem.W.nsIn (L2.KOf KX) mainGlobals x = some (some o) → mg x = some o := fun e => PySem.W.mg_of KX G e
      have M0 : ∀ {x : Str}, PySem.W.nsIn (L2.KOf KX) mainGlobals x = some none → mg x = none := fun e => PySem.W.mg_none_of KX G e
      have T : Tx mg := ⟨M0 b_len, M0 b_range, M0 b_isinstance, M0 b_int, M0 b_bool, M0 b_str, M0 b_tuple, M0 b_list, M0 b_dict, M0 b_min, M0 b_max, M0 b_all, M0 b_any, M0 b_enumerate, M0 b_zip, M0 b_sorted⟩
      have G1 : Gw mg := ⟨⟨t_LEAST, M c_LEAST⟩, ⟨t_MOST, M c_MOST⟩, ⟨t_RIGHTS, M c_RIGHTS⟩⟩
      have G2 : Gr mg := ⟨⟨t_CELLS, M c_CELLS⟩, ⟨t_BOXES, M c_BOXES⟩, ⟨t_MOST_ROOMS, M c_MOST_ROOMS⟩, ⟨t_ROOM_CELLS, M c_ROOM_CELLS⟩⟩
      have GT : Gt mg := ⟨⟨t_LEAST, M c_LEAST⟩, ⟨t_STRETCH, M c_STRETCH⟩, ⟨t_CELLS, M c_CELLS⟩, ⟨t_MOST_KEYS, M c_MOST_KEYS⟩⟩
      have LT_ : Tp (L2.KOf KX) mg "LETTERS" p_LETTERS [.str "g", .str "s"] := ⟨M n_LETTERS, t_LETTERS⟩
      have D_is_whole := df_mk (P := PySem.Challenge.pw_tagmachine_k21_whole_each_word_by_itself) (w := w) (base := base) (M a_is_whole) F_is_whole (fun _ _ _ _ _ _ us hl => match us, hl with | [_, _, _], _ => rfl) (ok_is_whole F_is_whole T)
      have D_is_number := df_mk (P := PySem.Challenge.pw_tagmachine_k21_whole_each_word_by_itself) (w := w) (base := base) (M a_is_number) F_is_number (fun _ _ _ _ _ _ us hl => match us, hl with | [_], _ => rfl) (ok_is_number F_is_number G1 D_is_whole)
      have D_common_rights := df_mk (P := PySem.Challenge.pw_tagmachine_k21_whole_each_word_by_itself) (w := w) (base := base) (M a_common_rights) F_common_rights (fun _ _ _ _ _ _ us hl => match us, hl with | [_, _], _ => rfl) (ok_common F_common_rights)
      have D_is_rights := df_mk (P := PySem.Challenge.pw_tagmachine_k21_whole_each_word_by_itself) (w := w) (base := base) (M a_is_rights) F_is_rights (fun _ _ _ _ _ _ us hl => match us, hl with | [_], _ => rfl) (ok_is_rights F_is_rights T G1 D_common_rights)
      have D_is_tagged := df_mk (P := PySem.Challenge.pw_tagmachine_k21_whole_each_word_by_itself) (w := w) (base := base) (M a_is_tagged) F_is_tagged (fun _ _ _ _ _ _ us hl => match us, hl with | [_, _, _], _ => rfl) (ok_is_tagged F_is_tagged T)
      have D_is_key := dfD_mk (P := PySem.Challenge.pw_tagmachine_k21_whole_each_word_by_itself) (w := w) (base := base) (M F_is_key.ns) F_is_key B_is_key (ok_is_key F_is_key.fn T D_is_tagged D_is_whole D_is_number D_is_rights)
      have D_is_gate := dfD_mk (P := PySem.Challenge.pw_tagmachine_k21_whole_each_word_by_itself) (w := w) (base := base) (M F_is_gate.ns) F_is_gate B_is_gate (ok_is_gate F_is_gate.fn T D_is_tagged D_is_whole D_is_number D_is_key)
      have D_is_word := dfD_mk (P := PySem.Challenge.pw_tagmachine_k21_whole_each_word_by_itself) (w := w) (base := base) (M F_is_word.ns) F_is_word B_is_word (ok_is_word F_is_word.fn D_is_number D_is_key D_is_gate)
      have D_kind_of := df_mk (P := PySem.Challenge.pw_tagmachine_k21_whole_each_word_by_itself) (w := w) (base := base) (M a_kind_of) F_kind_of (fun _ _ _ _ _ _ us hl => match us, hl with | [_], _ => rfl) (ok_kind_of F_kind_of T)
      have D_check_rooms := df_mk (P := PySem.Challenge.pw_tagmachine_k21_whole_each_word_by_itself) (w := w) (base := base) (M a_check_rooms) F_check_rooms (fun _ _ _ _ _ _ us hl => match us, hl with | [_], _ => rfl) (ok_check_rooms F_check_rooms G2 D_is_whole)
      have D_kept_cells := df_mk (P := PySem.Challenge.pw_tagmachine_k21_whole_each_word_by_itself) (w := w) (base := base) (M a_kept_cells) F_kept_cells (fun _ _ _ _ _ _ us hl => match us, hl with | [_], _ => rfl) (ok_kept F_kept_cells G2)
      have bL : Binds (L2.KOf KX) fd_check_list P_check_list [] := F_check_list.binds (fun _ _ _ _ _ _ us hl => match us, hl with | [_, _, _, _], _ => rfl)
      have D_check_words := df_mk (P := PySem.Challenge.pw_tagmachine_k21_whole_each_word_by_itself) (w := w) (base := base) (M a_check_words) F_check_words (fun _ _ _ _ _ _ us hl => match us, hl with | [_, _, _, _], _ => rfl) (ok_check_words (T := 166) F_check_words hcode_check_words hcd_check_words hB G2 (fun rows most a1 a2 f c doc pm ctv na => ok_check_listW F_check_list T D_is_word rows most na) (M a_check_list) F_check_list.kp bL D_check_rooms D_kept_cells)
      have D_taken := df_mk (P := PySem.Challenge.pw_tagmachine_k21_whole_each_word_by_itself) (w := w) (base := base) (M a_taken) F_taken (fun _ _ _ _ _ _ us hl => match us, hl with | [_], _ => rfl) (ok_taken_t F_taken GT)
      have D_key_by0 := df_mk (P := PySem.Challenge.pw_tagmachine_k21_whole_each_word_by_itself) (w := w) (base := base) (M a_key_by) F_key_by (fun _ _ _ _ _ _ us hl => match us, hl with | [_, _], _ => rfl) (ok_key_by0 F_key_by D_kind_of)
      have D_key_by := df_mk (P := PySem.Challenge.pw_tagmachine_k21_whole_each_word_by_itself) (w := w) (base := base) (M a_key_by) F_key_by (fun _ _ _ _ _ _ us hl => match us, hl with | [_, _], _ => rfl) (ok_key_by1 F_key_by D_kind_of D_key_by0)
      have D_shown_cells := df_mk (P := PySem.Challenge.pw_tagmachine_k21_whole_each_word_by_itself) (w := w) (base := base) (M a_shown_cells) F_shown_cells (fun _ _ _ _ _ _ us hl => match us, hl with | [_], _ => rfl) (ok_shown F_shown_cells T)
      have D_first_ways := df_mk (P := PySem.Challenge.pw_tagmachine_k21_whole_each_word_by_itself) (w := w) (base := base) (M a_first_ways) F_first_ways (fun _ _ _ _ _ _ us hl => match us, hl with | [_, _], _ => rfl) (ok_first_ways F_first_ways T D_key_by)
      have D_all_ways := df_mk (P := PySem.Challenge.pw_tagmachine_k21_whole_each_word_by_itself) (w := w) (base := base) (M a_all_ways) F_all_ways (fun _ _ _ _ _ _ us hl => match us, hl with | [_, _, _], _ => rfl) (ok_all_ways F_all_ways T (M0 b_set) D_first_ways D_shown_cells D_key_by)
      have D_touches := df_mk (P := PySem.Challenge.pw_tagmachine_k21_whole_each_word_by_itself) (w := w) (base := base) (M a_touches) F_touches (fun _ _ _ _ _ _ us hl => match us, hl with | [_, _, _], _ => rfl) (ok_touches F_touches)
      have D_letters_for := df_mk (P := PySem.Challenge.pw_tagmachine_k21_whole_each_word_by_itself) (w := w) (base := base) (M a_letters_for) F_letters_for (fun _ _ _ _ _ _ us hl => match us, hl with | [_, _], _ => rfl) (ok_letters_for F_letters_for T LT_ D_touches)
      have D_reach := df_mk (P := PySem.Challenge.pw_tagmachine_k21_whole_each_word_by_itself) (w := w) (base := base) (M a_reach) F_reach (fun _ _ _ _ _ _ us hl => match us, hl with | [_, _, _, _, _], _ => rfl) (ok_reach F_reach T D_check_words D_all_ways D_letters_for)
      have D_check_touch := df_mk (P := PySem.Challenge.pw_tagmachine_k21_whole_each_word_by_itself) (w := w) (base := base) (M a_check_touch) F_check_touch (fun _ _ _ _ _ _ us hl => match us, hl with | [_, _], _ => rfl) (ok_check_touch F_check_touch GT LT_ D_is_whole)
      have D_move_rows := df_mk (P := PySem.Challenge.pw_tagmachine_k21_whole_each_word_by_itself) (w := w) (base := base) (M a_move_rows) F_move_rows (fun _ _ _ _ _ _ us hl => match us, hl with | [_, _, _, _], _ => rfl) (ok_move_rows F_move_rows D_taken)
      have D_way_rows := df_mk (P := PySem.Challenge.pw_tagmachine_k21_whole_each_word_by_itself) (w := w) (base := base) (M a_way_rows) F_way_rows (fun _ _ _ _ _ _ us hl => match us, hl with | [_, _, _], _ => rfl) (ok_way_rows F_way_rows D_move_rows)
      have D_touching := df_mk (P := PySem.Challenge.pw_tagmachine_k21_whole_each_word_by_itself) (w := w) (base := base) (M a_touching) F_touching (fun _ _ _ _ _ _ us hl => match us, hl with | [_, _, _, _, _, _], _ => rfl) (ok_touching F_touching T GT D_check_words D_check_touch D_all_ways D_touches D_way_rows)
      have D_law_taken := df_mk (P := PySem.Challenge.pw_tagmachine_k21_whole_each_word_by_itself) (w := w) (base := base) (M a_law_taken) F_law_taken (fun _ _ _ _ _ _ us hl => match us, hl with | [_, _], _ => rfl) (ok_taken F_law_taken T)
      have D_law_number := df_mk (P := PySem.Challenge.pw_tagmachine_k21_whole_each_word_by_itself) (w := w) (base := base) (M a_law_number) F_law_number (fun _ _ _ _ _ _ us hl => match us, hl with | [_], _ => rfl) (ok_number F_law_number D_law_taken)
      have D_law_rights := df_mk (P := PySem.Challenge.pw_tagmachine_k21_whole_each_word_by_itself) (w := w) (base := base) (M a_law_rights) F_law_rights (fun _ _ _ _ _ _ us hl => match us, hl with | [_], _ => rfl) (ok_rights F_law_rights T D_law_taken)
      have D_law_key := df_mk (P := PySem.Challenge.pw_tagmachine_k21_whole_each_word_by_itself) (w := w) (base := base) (M a_law_key) F_law_key (fun _ _ _ _ _ _ us hl => match us, hl with | [_, _], _ => rfl) (ok_key F_law_key T D_law_taken D_law_rights)
      have D_law_one := df_mk (P := PySem.Challenge.pw_tagmachine_k21_whole_each_word_by_itself) (w := w) (base := base) (M a_law_one) F_law_one (fun _ _ _ _ _ _ us hl => match us, hl with | [_, _, _], _ => rfl) (ok_one F_law_one T D_law_taken D_law_number D_law_key)
      have D_law_nearly0 := df_mk (P := PySem.Challenge.pw_tagmachine_k21_whole_each_word_by_itself) (w := w) (base := base) (M a_law_nearly) F_law_nearly (fun _ _ _ _ _ _ us hl => match us, hl with | [_, _], _ => rfl) (nearly_none (m := 1))
      have D_law_nearly1 := df_mk (P := PySem.Challenge.pw_tagmachine_k21_whole_each_word_by_itself) (w := w) (base := base) (M a_law_nearly) F_law_nearly (fun _ _ _ _ _ _ us hl => match us, hl with | [_, _], _ => rfl) (ok_nearly F_law_nearly T D_law_taken D_law_nearly0)
      have D_law_nearly := df_mk (P := PySem.Challenge.pw_tagmachine_k21_whole_each_word_by_itself) (w := w) (base := base) (M a_law_nearly) F_law_nearly (fun _ _ _ _ _ _ us hl => match us, hl with | [_, _], _ => rfl) (ok_nearly F_law_nearly T D_law_taken D_law_nearly1)
      have D_law_state := df_mk (P := PySem.Challenge.pw_tagmachine_k21_whole_each_word_by_itself) (w := w) (base := base) (M a_law_state) F_law_state (fun _ _ _ _ _ _ us hl => match us, hl with | [_, _], _ => rfl) (ok_state F_law_state T D_law_taken D_law_one D_law_nearly)
      have D_law_chained := df_mk (P := PySem.Challenge.pw_tagmachine_k21_whole_each_word_by_itself) (w := w) (base := base) (M a_law_chained) F_law_chained (fun _ _ _ _ _ _ us hl => match us, hl with | [_, _, _], _ => rfl) (ok_chained F_law_chained T D_law_taken D_law_rights)
      have D_law_lesser0 := df_mk (P := PySem.Challenge.pw_tagmachine_k21_whole_each_word_by_itself) (w := w) (base := base) (M a_law_lesser) F_law_lesser (fun _ _ _ _ _ _ us hl => match us, hl with | [_, _], _ => rfl) (lesser_none (m := 2))
      have D_law_lesser1 := df_mk (P := PySem.Challenge.pw_tagmachine_k21_whole_each_word_by_itself) (w := w) (base := base) (M a_law_lesser) F_law_lesser (fun _ _ _ _ _ _ us hl => match us, hl with | [_, _], _ => rfl) (ok_lesser (n := 0) F_law_lesser T D_law_taken D_law_number D_law_lesser0)
      have D_law_lesser := df_mk (P := PySem.Challenge.pw_tagmachine_k21_whole_each_word_by_itself) (w := w) (base := base) (M a_law_lesser) F_law_lesser (fun _ _ _ _ _ _ us hl => match us, hl with | [_, _], _ => rfl) (ok_lesser (n := 1) F_law_lesser T D_law_taken D_law_number D_law_lesser1)
      have D_law_together := df_mk (P := PySem.Challenge.pw_tagmachine_k21_whole_each_word_by_itself) (w := w) (base := base) (M a_law_together) F_law_together (fun _ _ _ _ _ _ us hl => match us, hl with | [_], _ => rfl) (ok_together F_law_together T)
      exact ok_law F_law T D_law_taken D_law_state D_law_chained D_law_lesser D_law_together D_reach D_touching
    case S => exact fun K H a ns hl hO hS => ⟨a, ns, rfl, frz_onlyT hO hS, hl, .inl (hO.tab _ (List.mem_singleton.mpr rfl)), fun _ => rfl⟩)
