import PyProof.Rows.All
import Wide.All
import OpenK.AllK
import Wide.FinOn
import KE.KLam
import PyProof.EqAt
import PyProof.EqKinds
import PyProof.TupleCall
import KE.BitLaws
import KE.KNestM
import KE.KTryDeep
import KE.KTryMore
import PyProof.ExcInit
import PyProof.ExcClass3
import KE.KSuperObj
import PyProof.InstStoreFacts
import KE.KSuper
import PyProof.FString
import PyProof.StrBlockI
import PyProof.SliceStr2
import PyProof.SetNew
import PyProof.SetRoads
import PyProof.Rows.SetObj
import PyProof.ListRange
import PyProof.RangeFor
import PyProof.Rows.InDataRows
import KE.KDictSum
import KE.KDflt
import KE.KDictOf
import KE.KIsAll
import PyProof.ExcArgsOwn
import PyProof.ExcAttrAll.ValueError
import KE.RegKTryMore
import KE.RegKIsAll
import KE.RegKSuper
import PySem.Challenge.RW_tagmachine_k19_texts_refused
section
open PySem PySem.W PyProof.Rows
set_option Elab.async false
set_option linter.all false
set_option maxRecDepth 100000
set_option maxHeartbeats 0
def PySem.W.Fast.tw3094701115853657799 : Nat := 0
def PySem.W.Fast.tw176574985126847464 : Nat := 0
def PySem.W.Fast.tw4146347042899765806 : Nat := 0
def PySem.W.Fast.tw11510790518079381290 : Nat := 0
def PySem.W.Fast.tw9811933816175852179 : Nat := 0
def PySem.W.Fast.tw13784170469553932551 : Nat := 0
def PySem.W.Fast.tw9490788887817741740 : Nat := 0
open_top head for PySem.Challenge.rw_tagmachine_k19_texts_refused

end
set_option Elab.async false
set_option linter.all false
set_option maxRecDepth 100000
namespace L2
open PySem PySem.Spec PyProof.Rows
abbrev Key := Sum Int Str
def keyIs : Key → Value → Bool
  | .inl k, v => Value.isInt k v
  | .inr x, v => Value.isStrOf x v
def keyH (w : World) : Key → Int
  | .inl k => hashInt k
  | .inr x => hashStr w x
theorem keyIs_shape : ∀ {k : Key} {v : Value}, keyIs k v = true → (∃ i t, k = Sum.inl i ∧ v = Value.int i t) ∨ (∃ x t, k = Sum.inr x ∧ v = Value.str x t)
  | .inl i, v, h => by
    obtain ⟨t, e⟩ := Value.isInt_shape (k := i) (v := v) h
    exact .inl ⟨i, t, rfl, e⟩
  | .inr x, v, h => by
    obtain ⟨t, e⟩ := Value.isStrOf_shape (x := x) (v := v) h
    exact .inr ⟨x, t, rfl, e⟩
theorem keyIs_int (i : Int) (t : Tok) : keyIs (.inl i) (.int i t) = true := by simp [keyIs, Value.isInt]
theorem keyIs_str (x : Str) (t : Tok) : keyIs (.inr x) (.str x t) = true := by simp [keyIs, Value.isStrOf]
theorem key_ll (a b : Int) : decide ((Sum.inl a : Key) = Sum.inl b) = (a == b) := by
  by_cases e : a = b
  · subst e; simp
  · have h : ¬ (Sum.inl a : Key) = Sum.inl b := fun q => e (Sum.inl.inj q)
    rw [decide_eq_false h]
    exact (beq_eq_false_iff_ne.mpr e).symm
theorem key_rr (a b : Str) : decide ((Sum.inr a : Key) = Sum.inr b) = decide (a = b) := by
  by_cases e : a = b
  · subst e; simp
  · have h : ¬ (Sum.inr a : Key) = Sum.inr b := fun q => e (Sum.inr.inj q)
    rw [decide_eq_false h, decide_eq_false e]
theorem key_lr (a : Int) (b : Str) : decide ((Sum.inl a : Key) = Sum.inr b) = false := decide_eq_false (fun q => nomatch q)
theorem key_rl (a : Str) (b : Int) : decide ((Sum.inr a : Key) = Sum.inl b) = false := decide_eq_false (fun q => nomatch q)
def mixKind (prog : Program) (w : World) : PySem.KeyKind prog w Key where
  is := keyIs
  hash := keyH w
  inj := fun v a b ha hb => by
    rcases keyIs_shape ha with ⟨i, t, rfl, rfl⟩ | ⟨x, t, rfl, rfl⟩
    · rcases keyIs_shape hb with ⟨j, u, rfl, e⟩ | ⟨y, u, rfl, e⟩
      · injection e with e1 _; rw [e1]
      · exact nomatch e
    · rcases keyIs_shape hb with ⟨j, u, rfl, e⟩ | ⟨y, u, rfl, e⟩
      · exact nomatch e
      · injection e with e1 _; rw [e1]
  byValue := fun k v h => by
    rcases keyIs_shape h with ⟨i, t, rfl, rfl⟩ | ⟨x, t, rfl, rfl⟩ <;> rfl
  pyHash := fun hv h => by
    rcases keyIs_shape hv with ⟨i, t, rfl, rfl⟩ | ⟨x, t, rfl, rfl⟩
    · exact wpAny_pyHash_int h
    · exact wpAny_pyHash_str h
  eqBool := fun hu hv h => by
    rcases keyIs_shape hu with ⟨i, t, rfl, rfl⟩ | ⟨x, t, rfl, rfl⟩
    · rcases keyIs_shape hv with ⟨j, u, rfl, rfl⟩ | ⟨y, u, rfl, rfl⟩
      · rw [key_ll] at h; exact wpAny_eqBool_int h
      · rw [key_lr] at h; exact SeqAt.EqAt.int_str i t y u _ _ _ _ h
    · rcases keyIs_shape hv with ⟨j, u, rfl, rfl⟩ | ⟨y, u, rfl, rfl⟩
      · rw [key_rl] at h; exact SeqAt.EqAt.str_int x t j u _ _ _ _ h
      · rw [key_rr] at h; exact wpAny_eqBool_str h
  «strs» := fun k x t v h => by
    rcases keyIs_shape h with ⟨i, u, rfl, e⟩ | ⟨y, u, rfl, e⟩
    · exact nomatch e
    · injection e with e1 _
      subst e1
      cases v <;> rfl
theorem mixKind_int (prog : Program) (w : World) (i : Int) (t : Tok) : (mixKind prog w).is (.inl i) (.int i t) = true := keyIs_int i t
theorem mixKind_str (prog : Program) (w : World) (x : Str) (t : Tok) : (mixKind prog w).is (.inr x) (.str x t) = true := keyIs_str x t
end L2
namespace L2
open PySem PySem.Spec PyProof.Rows
inductive V where
  | non | bl (b : Bool) | int (i : Int) | str (x : Str) | byt (b : Array UInt8) | flt (b : UInt64) | ref (a : Addr) | ty (n : String)
  deriving DecidableEq
def RelV : V → Value → Prop
  | .non, u => u = Value.none
  | .bl b, u => u = Value.bool b
  | .int i, u => ∃ t, u = Value.int i t
  | .str x, u => ∃ t, u = Value.str x t
  | .byt b, u => ∃ t, u = Value.bytes b t
  | .flt b, u => ∃ t, u = Value.float b t
  | .ref a, u => u = Value.ref a
  | .ty n, u => u = Value.type n
abbrev Vals : List V → List Value → Prop := Paired RelV
theorem Vals.length {xs : List V} {us : List Value} (r : Vals xs us) : xs.length = us.length := Paired.length r
theorem Vals.get : ∀ {xs : List V} {us : List Value} {i : Nat} {x : V}, Vals xs us → xs[i]? = some x → ∃ u, us[i]? = some u ∧ RelV x u
  | _, _, _, _, .nil, e => by simp at e
  | _, _, 0, _, .cons r _, e => by simp at e; subst e; exact ⟨_, rfl, r⟩
  | _, _, i + 1, x, .cons _ t, e => by
    obtain ⟨u, h1, h2⟩ := Vals.get (i := i) (x := x) t (by simpa using e)
    exact ⟨u, by simpa using h1, h2⟩
theorem Vals.set {x : V} {u : Value} (r : RelV x u) : ∀ {xs : List V} {us : List Value} (i : Nat), Vals xs us → Vals (xs.set i x) (us.set i u)
  | _, _, _, .nil => .nil
  | _, _, 0, .cons _ t => .cons r t
  | _, _, i + 1, .cons q t => .cons q (Vals.set r i t)
theorem Vals.append : ∀ {xs ys : List V} {us ws : List Value}, Vals xs us → Vals ys ws → Vals (xs ++ ys) (us ++ ws)
  | _, _, _, _, .nil, s => s
  | _, _, _, _, .cons r t, s => .cons r (Vals.append t s)
theorem Vals.take : ∀ {xs : List V} {us : List Value} (n : Nat), Vals xs us → Vals (xs.take n) (us.take n)
  | _, _, 0, _ => .nil
  | _, _, _ + 1, .nil => .nil
  | _, _, n + 1, .cons r t => .cons r (Vals.take n t)
theorem Vals.drop : ∀ {xs : List V} {us : List Value} (n : Nat), Vals xs us → Vals (xs.drop n) (us.drop n)
  | _, _, 0, r => r
  | _, _, _ + 1, .nil => .nil
  | _, _, n + 1, .cons _ t => Vals.drop n t
theorem Vals.none_of : ∀ {xs : List V} {us : List Value} {i : Nat}, Vals xs us → xs[i]? = none → us[i]? = none := fun {xs us i} r e => by
  have h1 := r.length
  have h2 : xs.length ≤ i := List.getElem?_eq_none_iff.mp e
  exact List.getElem?_eq_none_iff.mpr (by omega)
def RelO : Option V → Option Value → Prop
  | some v, some u => RelV v u
  | none, none => True
  | _, _ => False
def KV {κ : Type} : List (κ × V) → List (κ × Value) → Prop := Paired fun (p : κ × V) (q : κ × Value) => p.1 = q.1 ∧ RelV p.2 q.2
def kV : Key → V
  | .inl i => .int i
  | .inr x => .str x
inductive HO where
  /-- a list -/
  | lst (xs : List V)
  /-- a tuple (never changes) -/
  | tup (xs : List V)
  /-- a dict whose keys are ints and texts; one whose keys are tuples of ints and texts (the empty one is both) -/
  | dK (kvs : List (Key × V)) | dT (kvs : List (List Key × V))
  /-- a set of ints: its members, its size -/
  | set (S : Int → Bool) (n : Nat)
  /-- an instance of the class at C, its dict at dx, its attributes -/
  | ins (C dx : Addr) (fs : List (Str × V))
  /-- the dict of the instance at x -/
  | own (x : Addr)
  /-- the dict of an exception -/
  | xd (fs : List (Str × V))
  /-- a bound method, f of x -/
  | met (f x : Addr)
  /-- a range object lo, lo + 1, .. below hi -/
  | rng (lo hi : Int)
  /-- a thing that is known to the object (the script; a dict while a loop walks it): read, never written while it is so -/
  | frz (o : Obj) (u : HO)
  /-- a code object's table -/
  | tbl (ps : Array Value)
  /-- any other thing, by what is true of its one object (a def of one's own: SetO a S n := HO.ext fun h => ..) -/
  | ext (φ : Heap → Prop)
abbrev Hp := Addr → Option HO
def upd (H : Hp) (a : Addr) (o : HO) : Hp := fun b => if b = a then some o else H b
theorem upd_same {H : Hp} {a : Addr} {o : HO} : upd H a o a = some o := by unfold upd; rw [if_pos rfl]
theorem upd_ne {H : Hp} {a b : Addr} {o : HO} (h : b ≠ a) : upd H a o b = H b := by unfold upd; rw [if_neg h]
theorem upd_upd {H : Hp} {a : Addr} {o u : HO} : upd (upd H a o) a u = upd H a u := by
  funext b; unfold upd; split <;> rfl
theorem ne_of {H : Hp} {a b : Addr} {o u : HO} (h : H a = some o) (h' : H b = some u) (d : o ≠ u) : a ≠ b := by
  intro e; subst e; rw [h] at h'; exact d (Option.some.inj h')
theorem ne_of_none {H : Hp} {a b : Addr} {o : HO} (h : H a = some o) (h' : H b = none) : a ≠ b := by
  intro e; subst e; rw [h] at h'; cases h'
section
variable (P : Program) (w : World)
def ObjOk (H : Hp) (h : Heap) (a : Addr) : HO → Prop
  | .lst xs => xs.length ≤ sizeLine ∧ ∃ (its : List Value) (n : Nat), Vals xs its ∧ h.get? a = some { cls := .type "list", data := .seq its.toArray n }
  | .tup xs => xs.length ≤ sizeLine ∧ ∃ its : List Value, Vals xs its ∧ IsTup h a its.toArray
  | .dK kvs => kvs.length ≤ sizeLine ∧ (a == sysModules) = false ∧ ∃ vs, KV kvs vs ∧ h.DictOf (mixKind P w) a vs
  | .dT kvs => kvs.length ≤ sizeLine ∧ (a == sysModules) = false ∧ ∃ xs : List (List Key × Addr × Value),
      Paired (fun (p : List Key × V) (q : List Key × Addr × Value) => p.1 = q.1 ∧ H q.2.1 = some (.tup (p.1.map kV)) ∧ RelV p.2 q.2.2) kvs xs ∧
      ∃ o es ep, h.get? a = some o ∧ o.ExactDict ∧ o.data = .dict es ep ∧ es.toList = xs.map (entryOfKey (tupleKind (mixKind P w))) ∧ (xs.map (·.1)).Nodup
  | .set S n => h.SetOf (intKind P w) a S n
  | .ins C dx fs => H dx = some (.own a) ∧ fs.length ≤ 1000 ∧ dx ≠ a ∧ h.get? a = some (PySem.W.instObj C dx) ∧
      ∃ mA, h.Ns1 dx mA ∧ (∀ f, RelO (fs.lookup f) (mA f)) ∧ PySem.Within mA (fs.map (·.1))
  | .own _ => ∃ o, h.get? a = some o
  | .xd fs => ∃ mA, h.Ns1 a mA ∧ ∀ f, RelO (fs.lookup f) (mA f)
  | .rng lo hi => ∃ t u v, h.get? a = some { cls := .type "range", data := .fields #[.int lo t, .int hi u, .int 1 v] }
  | .frz o u => h.get? a = some o ∧ ObjOk H h a u
  | .tbl ps => h.get? a = some { cls := .none, data := .fields ps }
  | .met f x => h.get? a = some (PySem.W.methodObj (.ref f) (.ref x))
  | .ext φ => φ h ∧ (∃ o, h.get? a = some o) ∧ ∀ h1 h2 : Heap, φ h1 → (∀ o, h1.get? a = some o → h2.get? a = some o) → φ h2
def HOk (H : Hp) (h : Heap) : Prop := ∀ a o, H a = some o → ObjOk P w H h a o
end
section
variable {P : Program} {w : World} {H H' : Hp} {h h' : Heap} {a : Addr} {o : HO}
theorem ObjOk.lt (x : ObjOk P w H h a o) : a < h.objs.size := by
  cases o with
  | lst xs => obtain ⟨_, _, _, _, e⟩ := x; exact Heap.lt_size e
  | tup xs => obtain ⟨_, _, _, p⟩ := x; exact p.lt
  | dK kvs => obtain ⟨_, _, _, _, o, _, _, e, _⟩ := x; exact Heap.lt_size e
  | dT kvs => obtain ⟨_, _, _, _, o, _, _, e, _⟩ := x; exact Heap.lt_size e
  | set S n => obtain ⟨o, _, _, _, e, _⟩ := x; exact Heap.lt_size e
  | ins C dx fs => obtain ⟨_, _, _, e, _⟩ := x; exact Heap.lt_size e
  | own y => obtain ⟨_, e⟩ := x; exact Heap.lt_size e
  | xd fs => obtain ⟨_, ⟨_, _, _, e, _⟩, _⟩ := x; exact Heap.lt_size e
  | rng lo hi => obtain ⟨_, _, _, e⟩ := x; exact Heap.lt_size e
  | frz ob u => obtain ⟨e, _⟩ := x; exact Heap.lt_size e
  | tbl ps => exact Heap.lt_size (show h.get? a = some _ from x)
  | met f y => exact Heap.lt_size (show h.get? a = some _ from x)
  | ext φ => obtain ⟨_, ⟨_, e⟩, _⟩ := x; exact Heap.lt_size e
theorem Paired.mapP {α β : Type} {F G : α → β → Prop} : ∀ {l₁ : List α} {l₂ : List β}, Paired F l₁ l₂ → (∀ a b, F a b → G a b) → Paired G l₁ l₂
  | _, _, .nil, _ => .nil
  | _, _, .cons r t, f => .cons (f _ _ r) (Paired.mapP t f)
theorem ObjOk.stay (x : ObjOk P w H h a o) (k : ∀ b u, (b = a ∨ H b = some (.own a)) → h.get? b = some u → h'.get? b = some u)
    (ho : ∀ b, H b = some (.own a) → H' b = some (.own a)) (ht : ∀ b xs, H b = some (.tup xs) → H' b = some (.tup xs)) : ObjOk P w H' h' a o := by
  induction o with
  | lst xs => obtain ⟨z, its, n, r, e⟩ := x; exact ⟨z, its, n, r, k _ _ (.inl rfl) e⟩
  | tup xs => obtain ⟨z, its, r, ob, e, c⟩ := x; exact ⟨z, its, r, ob, k _ _ (.inl rfl) e, c⟩
  | dK kvs => obtain ⟨z, y, vs, r, ob, es, ep, e, c⟩ := x; exact ⟨z, y, vs, r, ob, es, ep, k _ _ (.inl rfl) e, c⟩
  | dT kvs =>
    obtain ⟨z, y, xs, r, ob, es, ep, e, c⟩ := x
    exact ⟨z, y, xs, Paired.mapP r fun p q z => ⟨z.1, ht _ _ z.2.1, z.2.2⟩, ob, es, ep, k _ _ (.inl rfl) e, c⟩
  | set S n => obtain ⟨ob, es, ep, t, e, c⟩ := x; exact ⟨ob, es, ep, t, k _ _ (.inl rfl) e, c⟩
  | ins C dx fs =>
    obtain ⟨d, z, ne, e, mA, ⟨od, es, ep, e2, c⟩, r⟩ := x
    exact ⟨ho _ d, z, ne, k _ _ (.inl rfl) e, mA, ⟨od, es, ep, k _ _ (.inr d) e2, c⟩, r⟩
  | own y => obtain ⟨ob, e⟩ := x; exact ⟨ob, k _ _ (.inl rfl) e⟩
  | xd fs => obtain ⟨mA, ⟨od, es, ep, e, c⟩, r⟩ := x; exact ⟨mA, ⟨od, es, ep, k _ _ (.inl rfl) e, c⟩, r⟩
  | rng lo hi => obtain ⟨t, u, v, e⟩ := x; exact ⟨t, u, v, k _ _ (.inl rfl) e⟩
  | frz ob u ih => obtain ⟨e, q⟩ := x; exact ⟨k _ _ (.inl rfl) e, ih q⟩
  | tbl ps =>
    have e : h.get? a = some { cls := .none, data := .fields ps } := x
    show h'.get? a = some { cls := .none, data := .fields ps }
    exact k a _ (.inl rfl) e
  | met f y =>
    have e : h.get? a = some (PySem.W.methodObj (.ref f) (.ref y)) := x
    show h'.get? a = some (PySem.W.methodObj (.ref f) (.ref y))
    exact k a _ (.inl rfl) e
  | ext φ => obtain ⟨p, ⟨o, e⟩, st⟩ := x; exact ⟨st _ _ p fun o q => k _ _ (.inl rfl) q, ⟨o, k _ _ (.inl rfl) e⟩, st⟩
theorem HOk.lt (x : HOk P w H h) (e : H a = some o) : a < h.objs.size := (x a o e).lt
theorem HOk.fresh (x : HOk P w H h) (e : h.objs.size ≤ a) : H a = none := by
  cases q : H a with
  | none => rfl
  | some u => exact absurd (Nat.lt_of_lt_of_le (x.lt q) e) (Nat.lt_irrefl _)
theorem HOk.kept (x : HOk P w H h) (k : ∀ b u, h.get? b = some u → h'.get? b = some u) : HOk P w H h' := fun a o e =>
  (x a o e).stay (fun b u _ q => k b u q) (fun _ q => q) fun _ _ q => q
theorem HOk.laid (x : HOk P w H h) (k : ∀ b u, h.get? b = some u → h'.get? b = some u) (hp : h.objs.size ≤ a) (new : ObjOk P w (upd H a o) h' a o) : HOk P w (upd H a o) h' := fun b u e => by
  have hn := x.fresh hp
  by_cases hb : b = a
  · subst hb; rw [upd_same] at e; cases e; exact new
  · rw [upd_ne hb] at e
    exact (x b u e).stay (fun c v _ q => k c v q) (fun c q => by rw [upd_ne (ne_of_none q hn)]; exact q) fun c xs q => by rw [upd_ne (ne_of_none q hn)]; exact q
end
def Rd (H : Hp) (a : Addr) (u : HO) : Prop := H a = some u ∨ ∃ o, H a = some (.frz o u)
theorem Rd.of {H : Hp} {a : Addr} {u : HO} (h : H a = some u) : Rd H a u := .inl h
theorem Rd.ok {P : Program} {w : World} {H : Hp} {h : Heap} {a : Addr} {u : HO} (r : Rd H a u) (x : HOk P w H h) : ObjOk P w H h a u := by
  rcases r with r | ⟨o, r⟩
  · exact x a u r
  · obtain ⟨_, q⟩ := x a _ r
    exact q
def Mut : Option HO → Prop
  | some (.lst _) => True
  | some (.dK _) => True
  | some (.dT _) => True
  | some (.set _ _) => True
  | some (.ins _ _ _) => True
  | some (.ext _) => True
  | _ => False
section
variable {P : Program} {w : World} {H : Hp} {h h' : Heap} {x e : Addr} {o' : HO}
theorem HOk.write (ok : HOk P w H h) (mu : Mut (H x)) (he : e = x ∨ H e = some (.own x)) (k : ∀ b u, b ≠ e → h.get? b = some u → h'.get? b = some u) (heo : ∃ u, h'.get? e = some u)
    (new : ObjOk P w (upd H x o') h' x o') : HOk P w (upd H x o') h' := fun b u q => by
  have nown : ∀ c y, H c = some (.own y) → c ≠ x := fun c y r z => by subst z; rw [r] at mu; exact mu
  have ntup : ∀ c xs, H c = some (.tup xs) → c ≠ x := fun c xs r z => by subst z; rw [r] at mu; exact mu
  by_cases hb : b = x
  · subst hb; rw [upd_same] at q; cases q; exact new
  · rw [upd_ne hb] at q
    by_cases hbe : b = e
    · have q' : H b = some (.own x) := by
        rcases he with z | z
        · exact absurd (hbe.trans z) hb
        · rw [hbe]; exact z
      rw [q] at q'; cases q'
      obtain ⟨v, hv⟩ := heo
      exact ⟨v, by rw [hbe]; exact hv⟩
    · refine (ok b u q).stay (fun c v hc r => k c v ?_ r) (fun c r => by rw [upd_ne (nown c b r)]; exact r) fun c xs r => by rw [upd_ne (ntup c xs r)]; exact r
      rcases hc with rfl | hc
      · exact hbe
      · rintro rfl
        rcases he with z | z
        · exact nown c b hc z
        · rw [hc] at z; cases z; exact hb rfl
end
structure Un (fs ex : List Addr) (H H' : Hp) (h h' : Heap) : Prop where
  keep : ∀ b o, h.get? b = some o → H b = none → b ∉ fs → b ∉ ex → h'.get? b = some o
  slot : ∀ b o, h.get? b = some o → H b = none → b ∈ fs → b ∉ ex → ∃ sl, h'.get? b = some { o with slots := sl }
  free : ∀ b o, h.get? b = some o → H b = none → b ∉ ex → H' b = none
  there : ∀ b o, h.get? b = some o → b ∉ ex → ∃ o', h'.get? b = some o'
  tups : ∀ b xs, H b = some (.tup xs) → H' b = some (.tup xs)
  frzs : ∀ b o u, H b = some (.frz o u) → H' b = some (.frz o u)
  tbls : ∀ b ps, H b = some (.tbl ps) → ∃ more, H' b = some (.tbl (ps ++ more))
section
variable {fs fs' ex ex' : List Addr} {H H1 H2 : Hp} {h h1 h2 h' : Heap} {a x e : Addr} {o : HO}
theorem Un.any (u : Un fs ex H H1 h h1) {b : Addr} {ob : Obj} (q : h.get? b = some ob) (n : H b = none) (hx : b ∉ ex) : ∃ sl, h1.get? b = some { ob with slots := sl } := by
  by_cases hb : b ∈ fs
  · exact u.slot b ob q n hb hx
  · exact ⟨ob.slots, u.keep b ob q n hb hx⟩
theorem Un.trans (a : Un fs ex H H1 h h1) (b : Un fs ex H1 H2 h1 h2) : Un fs ex H H2 h h2 where
  keep := fun c ob q n hc hx => b.keep c ob (a.keep c ob q n hc hx) (a.free c ob q n hx) hc hx
  slot := fun c ob q n hc hx => by
    obtain ⟨sl, e1⟩ := a.slot c ob q n hc hx
    obtain ⟨sl', e2⟩ := b.slot c _ e1 (a.free c ob q n hx) hc hx
    exact ⟨sl', e2⟩
  free := fun c ob q n hx => by
    obtain ⟨o', e1⟩ := a.there c ob q hx
    exact b.free c o' e1 (a.free c ob q n hx) hx
  there := fun c ob q hx => by
    obtain ⟨o', e1⟩ := a.there c ob q hx
    exact b.there c o' e1 hx
  tups := fun c xs q => b.tups c xs (a.tups c xs q)
  frzs := fun c ob xs q => b.frzs c ob xs (a.frzs c ob xs q)
  tbls := fun c ps q => by
    obtain ⟨m1, e1⟩ := a.tbls c ps q
    obtain ⟨m2, e2⟩ := b.tbls c _ e1
    exact ⟨m1 ++ m2, by rw [e2, Array.append_assoc]⟩
theorem Un.kept (k : ∀ b u, h.get? b = some u → h'.get? b = some u) : Un fs ex H H h h' :=
  ⟨fun b ob q _ _ _ => k b ob q, fun b ob q _ _ _ => ⟨ob.slots, k b ob q⟩, fun _ _ _ n _ => n, fun b ob q _ => ⟨ob, k b ob q⟩, fun _ _ q => q, fun _ _ _ q => q, fun _ ps q => ⟨#[], by rw [q]; simp⟩⟩
theorem Un.refl : Un fs ex H H h h := Un.kept fun _ _ q => q
theorem Un.laid (k : ∀ b u, h.get? b = some u → h'.get? b = some u) (hp : h.objs.size ≤ a) (hn : H a = none) : Un fs ex H (upd H a o) h h' where
  keep := fun b u q _ _ _ => k b u q
  slot := fun b u q _ _ _ => ⟨u.slots, k b u q⟩
  free := fun b u q n _ => by rw [upd_ne (Nat.ne_of_lt (Nat.lt_of_lt_of_le (Heap.lt_size q) hp))]; exact n
  there := fun b u q _ => ⟨u, k b u q⟩
  tups := fun b xs q => by rw [upd_ne (ne_of_none q hn)]; exact q
  frzs := fun b u xs q => by rw [upd_ne (ne_of_none q hn)]; exact q
  tbls := fun b ps q => ⟨#[], by rw [upd_ne (ne_of_none q hn), q]; simp⟩
theorem Un.write (mu : Mut (H x)) (he : e = x ∨ H e = some (.own x)) (k : ∀ b u, b ≠ e → h.get? b = some u → h'.get? b = some u) (heo : ∃ u, h'.get? e = some u) : Un fs ex H (upd H x o) h h' := by
  have hx : ∀ b, H b = none → b ≠ x := fun b n z => by subst z; rw [n] at mu; exact mu
  have hb : ∀ b, H b = none → b ≠ e := fun b n z => by
    subst z
    rcases he with r | r
    · exact hx b n r
    · rw [n] at r; cases r
  have hm : ∀ b u, H b = some u → ¬ Mut (some u) → b ≠ x := fun b u q nm z => by subst z; rw [q] at mu; exact nm mu
  refine ⟨fun b u q n _ _ => k b u (hb b n) q, fun b u q n _ _ => ⟨u.slots, k b u (hb b n) q⟩, fun b u q n _ => by rw [upd_ne (hx b n)]; exact n, fun b u q _ => ?_,
    fun b xs q => by rw [upd_ne (hm b _ q fun z => z)]; exact q, fun b u xs q => by rw [upd_ne (hm b _ q fun z => z)]; exact q, fun b ps q => ⟨#[], by rw [upd_ne (hm b _ q fun z => z), q]; simp⟩⟩
  by_cases hbe : b = e
  · subst hbe; exact heo
  · exact ⟨u, k b u hbe q⟩
theorem Un.mono (u : Un fs ex H H1 h h1) (hs : ∀ b ∈ fs, b ∈ fs') (hx : ∀ b ∈ ex, b ∈ ex') : Un fs' ex' H H1 h h1 :=
  ⟨fun b ob q n hb he => u.keep b ob q n (fun z => hb (hs b z)) fun z => he (hx b z), fun _ _ q n _ he => u.any q n fun z => he (hx _ z), fun b ob q n he => u.free b ob q n fun z => he (hx b z), fun b ob q he => u.there b ob q fun z => he (hx b z), u.tups, u.frzs, u.tbls⟩
end
def trk (h : Heap) (H : Hp) : List Addr := (List.range h.objs.size).filter fun a => (H a).isSome
def hidT (h : Heap) (H : Hp) : Heap := PySem.W.hideAll h (trk h H)
theorem hidT_size (h : Heap) (H : Hp) : (hidT h H).objs.size = h.objs.size := PySem.W.hideAll_size _ _
theorem hidT_get {h : Heap} {H : Hp} {b : Addr} {o : Obj} (e : h.get? b = some o) (n : H b = none) : (hidT h H).get? b = some o :=
  PySem.W.hideAll_get _ e fun hm => by
    have q : (H b).isSome = true := (List.mem_filter.mp hm).2
    rw [n] at q; simp at q
theorem of_hidT {h : Heap} {H : Hp} {b : Addr} {o : Obj} (e : (hidT h H).get? b = some o) : h.get? b = some o ∧ H b = none := by
  have e' : h.get? b = some o := PySem.W.of_hideAll (trk h H) e
  refine ⟨e', ?_⟩
  cases q : H b with
  | none => rfl
  | some x =>
    have hm : b ∈ trk h H := List.mem_filter.mpr ⟨List.mem_range.mpr (Heap.lt_size e'), by simp [q]⟩
    have z : (hidT h H).get? b = none := PySem.W.hideAll_none (trk h H) hm
    rw [z] at e; cases e
def allNews (g h : Heap) (L : Addr) : List (Addr × Obj) := (List.range h.objs.size).filterMap fun a => if a = L ∨ (g.get? a).isSome = true then none else (h.get? a).map fun o => (a, o)
def rest (g h : Heap) (L d : Addr) : List (Addr × Obj) := (allNews g h L).filter fun p => decide (p.1 ≠ d)
end L2
namespace L2
open PySem PySem.Spec PyProof.Rows
structure Mod (K : PySem.W.Frag) (mg : Str → Option Value) (base : Heap) : Prop where
  kin : K.In base
  glob : base.Ns mainGlobals mg
  blt : ∃ mb, base.Ns builtinsNs mb ∧ ∀ x : Str, x ≠ "__name__" → mb x = bootBuiltins x
  nolimit : base.NoLimit
structure Cx where
  prog : Program
  w : World
  K : PySem.W.Frag
  mg : Str → Option Value
  base : Heap
  A : Around
  N : List Str
  s_0 : Shared
  H_0 : Hp
  env : Env
  outer : List Env
  stack : List Env
  ex : List Addr
  fn : Str → Bool
  calm : Bool
  pn : List (Addr × Obj)
  xe : Value → Shared → Prop
def frs (l : List Env) : List Addr := l.filterMap (·.frame)
abbrev Cx.fs (X : Cx) : List Addr := frs X.outer
def Vis (sc : Scope) (x : Str) : Prop := sc.names.lookup x = some .local ∨ sc.names.lookup x = some .cell ∨ sc.names.lookup x = some .free
def Loc (sc : Scope) (x : Str) : Prop := sc.names.lookup x = some .local ∨ sc.names.lookup x = some .cell
def Look (env : Env) (h : Heap) (m : Str → Option Value) (x : Str) (u : Value) : Prop :=
  (env.kindOf x = some .local ∧ m x = some u) ∨ ((env.kindOf x = some .cell ∨ env.kindOf x = some .free) ∧ ∃ c, env.cells.lookup x = some c ∧ h.IsCell c (some u))
structure Cx.Ok (X : Cx) : Prop where
  mod : Mod X.K X.mg X.base
  kind : X.env.scope.kind = .function
  glob : X.env.globals = mainGlobals
  blt : X.env.builtins = builtinsNs
  above : X.s_0.heap.objs.size ≤ X.env.locals
  inj : ∀ x y c, X.env.cells.lookup x = some c → X.env.cells.lookup y = some c → x = y
  has : ∀ x, (X.env.kindOf x = some .cell ∨ X.env.kindOf x = some .free) → ∃ c, X.env.cells.lookup x = some c
  cab : ∀ x c, X.fn x = true → X.env.cells.lookup x = some c → X.s_0.heap.objs.size ≤ c
  hd : X.calm = true → X.A.handled = none
  frames : X.A.frames = some X.stack
  stk : X.stack = X.outer ∨ (X.stack = X.env :: X.outer ∧ X.env.frame = some X.env.locals)
  exf : ∀ b ∈ X.ex, b ≠ X.env.locals ∧ ∀ x c, X.env.cells.lookup x = some c → c ≠ b
  bs : ∀ b o, X.base.get? b = some o → X.s_0.heap.get? b = some o ∧ X.H_0 b = none
  bsz : X.base.objs.size ≤ X.s_0.heap.objs.size
  noex : ∀ b o, X.base.get? b = some o → b ∉ X.ex
  exfs : ∀ b ∈ X.ex, b ∉ X.fs
  funs : X.s_0.heap.FunFrames X.base X.outer
  frf : ∀ b ∈ X.fs, X.H_0 b = none
structure Inv (X : Cx) (pins : List (Addr × Obj)) (σ : List (Option V)) (H : Hp) (s : Shared) : Prop where
  ok : X.Ok
  os : s.os = X.s_0.os
  bare : AllBare s.gens
  base : Un X.fs X.ex X.H_0 H X.s_0.heap s.heap
  loc : ∃ m, s.heap.Ns X.env.locals m ∧ ∀ (i : Nat) (x : Str) (v : V), X.N[i]? = some x → σ[i]? = some (some v) → Vis X.env.scope x → ∃ u, RelV v u ∧ Look X.env s.heap m x u
  cell : ∀ x c, X.env.cells.lookup x = some c → ∃ v, s.heap.IsCell c v
  free : H X.env.locals = none
  freeC : ∀ x c, X.env.cells.lookup x = some c → H c = none
  pin : ∀ p ∈ X.pn ++ pins, s.heap.get? p.1 = some p.2 ∧ H p.1 = none ∧ p.1 ≠ X.env.locals ∧ p.1 ∉ X.fs ∧ ∀ v, p.2.data ≠ .cell v
  hok : HOk X.prog X.w H s.heap
  len : σ.length = X.N.length
section
variable {X : Cx} {pins : List (Addr × Obj)} {σ : List (Option V)} {H H' : Hp} {s : Shared} {h' : Heap}
theorem Cx.Ok.nofr (ok : X.Ok) {b : Addr} {o : Obj} (e : X.base.get? b = some o) : b ∉ X.fs := fun hb => by
  have := (ok.funs.mem hb).1
  rw [e] at this; cases this
theorem Inv.bs (I : Inv X pins σ H s) : ∀ b o, X.base.get? b = some o → s.heap.get? b = some o ∧ H b = none := fun b o e =>
  ⟨I.base.keep b o (I.ok.bs b o e).1 (I.ok.bs b o e).2 (I.ok.nofr e) (I.ok.noex b o e), I.base.free b o (I.ok.bs b o e).1 (I.ok.bs b o e).2 (I.ok.noex b o e)⟩
theorem Inv.bk (I : Inv X pins σ H s) : ∀ b o, X.base.get? b = some o → s.heap.get? b = some o := fun b o e => (I.bs b o e).1
theorem Inv.mod (I : Inv X pins σ H s) : Mod X.K X.mg X.base := I.ok.mod
theorem Inv.kIn (I : Inv X pins σ H s) : X.K.In s.heap := I.ok.mod.kin.keeps I.bk
theorem Inv.nolimit (I : Inv X pins σ H s) : s.heap.NoLimit := I.ok.mod.nolimit.keeps I.bk
theorem Inv.fr (I : Inv X pins σ H s) : ∃ m, Fr X.base X.env.locals s.heap m :=
  let ⟨m, hn, _⟩ := I.loc
  ⟨m, hn, I.bk, Nat.le_trans I.ok.bsz I.ok.above⟩
theorem Inv.lt (I : Inv X pins σ H s) : X.env.locals < s.heap.objs.size := let ⟨_, hn, _⟩ := I.loc; hn.lt
theorem Inv.sz (I : Inv X pins σ H s) : X.s_0.heap.objs.size ≤ s.heap.objs.size := Nat.le_trans I.ok.above (Nat.le_of_lt I.lt)
theorem Inv.nofs (I : Inv X pins σ H s) {a : Addr} (h : s.heap.objs.size ≤ a) : a ∉ X.fs := fun hb => by
  obtain ⟨_, o, ho, _⟩ := I.ok.funs.mem hb
  exact absurd (Nat.lt_of_lt_of_le (Heap.lt_size ho) (Nat.le_trans I.sz h)) (Nat.lt_irrefl _)
theorem Inv.cne (I : Inv X pins σ H s) : ∀ x c, X.env.cells.lookup x = some c → c ≠ X.env.locals := fun x c e z => by
  obtain ⟨v, o, ho, hd⟩ := I.cell x c e
  obtain ⟨m, ⟨o', es, ep, ho', hd', _⟩, _⟩ := I.loc
  rw [z, ho'] at ho; cases ho; rw [hd'] at hd; cases hd
theorem Inv.funs (I : Inv X pins σ H s) : s.heap.FunFrames X.base X.outer := by
  have all : ∀ (l : List Env), (∀ b ∈ frs l, b ∈ X.fs) → X.s_0.heap.FunFrames X.base l → s.heap.FunFrames X.base l := by
    intro l
    induction l with
    | nil => intro _ _; trivial
    | cons env r ih =>
      intro hs hl
      obtain ⟨hk, ⟨L, o, hf, hn, ho, hd⟩, hr⟩ := hl
      have hL : L ∈ X.fs := hs L (by unfold frs; rw [List.filterMap_cons, hf]; exact List.mem_cons_self)
      obtain ⟨sl, e⟩ := I.base.slot L o ho (I.ok.frf L hL) hL fun z => I.ok.exfs L z hL
      exact ⟨hk, ⟨L, _, hf, hn, e, hd⟩, ih (fun b hb => hs b (by unfold frs; rw [List.filterMap_cons, hf]; exact List.mem_cons_of_mem _ hb)) hr⟩
  exact all X.outer (fun _ hb => hb) I.ok.funs
theorem Inv.stack (I : Inv X pins σ H s) : s.heap.FunFrames X.base X.stack := by
  rcases I.ok.stk with e | ⟨e, hf⟩
  · rw [e]; exact I.funs
  · rw [e]
    obtain ⟨m, hn, _⟩ := I.loc
    refine .cons (by rw [I.ok.kind]; decide) hf hn ?_ I.funs
    exact Heap.get?_none_of_le (Nat.le_trans I.ok.bsz I.ok.above)
theorem Inv.stkSub (I : Inv X pins σ H s) : ∀ b ∈ frs X.stack, b ∈ X.env.locals :: X.fs := fun b hb => by
  rcases I.ok.stk with e | ⟨e, hf⟩
  · rw [e] at hb; exact List.mem_cons_of_mem _ hb
  · rw [e] at hb
    unfold frs at hb
    rw [List.filterMap_cons, hf] at hb
    exact hb
theorem Inv.stkFree (I : Inv X pins σ H s) : ∀ b ∈ frs X.stack, H b = none := fun b hb => by
  rcases List.mem_cons.mp (I.stkSub b hb) with e | hb
  · rw [e]; exact I.free
  · obtain ⟨_, o, ho, _⟩ := I.ok.funs.mem hb
    exact I.base.free b o ho (I.ok.frf b hb) fun z => I.ok.exfs b z hb
theorem Inv.step {g' : Array GenState} {t' : Nat} {d' : Drawn} {ch : List Addr} (I : Inv X pins σ H s)
    (hch : ∀ b ∈ ch, (b ∈ X.ex ∨ X.s_0.heap.objs.size ≤ b) ∧ b ≠ X.env.locals ∧ (∀ x c, X.env.cells.lookup x = some c → c ≠ b) ∧ ∀ p ∈ X.pn ++ pins, p.1 ≠ b)
    (keep : ∀ b o, b ≠ X.env.locals → b ∉ X.fs → b ∉ ch → s.heap.get? b = some o → H b = none → h'.get? b = some o)
    (slot : ∀ b o, b ≠ X.env.locals → b ∈ X.fs → b ∉ ch → s.heap.get? b = some o → H b = none → ∃ sl, h'.get? b = some { o with slots := sl }) (free : ∀ b o, b ∉ ch → s.heap.get? b = some o → H b = none → H' b = none)
    (there : ∀ b o, b ∉ ch → s.heap.get? b = some o → ∃ o', h'.get? b = some o')
    (tups : ∀ b xs, H b = some (.tup xs) → H' b = some (.tup xs)) (frzs : ∀ b o u, H b = some (.frz o u) → H' b = some (.frz o u)) (tbls : ∀ b ps, H b = some (.tbl ps) → ∃ more, H' b = some (.tbl (ps ++ more)))
    (ns : ∀ m, s.heap.Ns X.env.locals m → h'.Ns X.env.locals m) (hok : HOk X.prog X.w H' h') (hg : AllBare g') :
    Inv X pins σ H' { s with heap := h', gens := g', drawn := d', toks := t' } := by
  have neL : ∀ b o, X.s_0.heap.get? b = some o → b ≠ X.env.locals := fun b o e => Nat.ne_of_lt (Nat.lt_of_lt_of_le (Heap.lt_size e) I.ok.above)
  have neC : ∀ b o, X.s_0.heap.get? b = some o → b ∉ X.ex → b ∉ ch := fun b o e hx hb => by
    rcases (hch b hb).1 with z | z
    · exact hx z
    · exact absurd (Nat.lt_of_lt_of_le (Heap.lt_size e) z) (Nat.lt_irrefl _)
  have cellK : ∀ x c, X.env.cells.lookup x = some c → ∀ v, s.heap.IsCell c v → h'.IsCell c v := fun x c e v ⟨o, ho, hd⟩ => by
    have nch : c ∉ ch := fun z => (hch c z).2.2.1 x c e rfl
    by_cases hc : c ∈ X.fs
    · obtain ⟨sl, q⟩ := slot c o (I.cne x c e) hc nch ho (I.freeC x c e)
      exact ⟨_, q, hd⟩
    · exact ⟨o, keep c o (I.cne x c e) hc nch ho (I.freeC x c e), hd⟩
  refine ⟨I.ok, I.os, hg, ⟨fun b o e n hb hx => ?_, fun b o e n hb hx => ?_, fun b o e n hx => ?_, fun b o e hx => ?_, fun b xs e => tups b xs (I.base.tups b xs e), fun b o xs e => frzs b o xs (I.base.frzs b o xs e), fun b ps e => ?_⟩, ?_, fun x c e => ?_, ?_, fun x c e => ?_, fun p hp => ?_, hok, I.len⟩
  · exact keep b o (neL b o e) hb (neC b o e hx) (I.base.keep b o e n hb hx) (I.base.free b o e n hx)
  · obtain ⟨sl, e1⟩ := I.base.slot b o e n hb hx
    obtain ⟨sl', e2⟩ := slot b _ (neL b o e) hb (neC b o e hx) e1 (I.base.free b o e n hx)
    exact ⟨sl', e2⟩
  · obtain ⟨o', e1⟩ := I.base.there b o e hx
    exact free b o' (neC b o e hx) e1 (I.base.free b o e n hx)
  · obtain ⟨o', e1⟩ := I.base.there b o e hx
    exact there b o' (neC b o e hx) e1
  · obtain ⟨m1, e1⟩ := I.base.tbls b ps e
    obtain ⟨m2, e2⟩ := tbls b _ e1
    exact ⟨m1 ++ m2, by rw [e2, Array.append_assoc]⟩
  · obtain ⟨m, hn, hl⟩ := I.loc
    refine ⟨m, ns m hn, fun i x v e1 e2 e3 => ?_⟩
    obtain ⟨u, r, l⟩ := hl i x v e1 e2 e3
    refine ⟨u, r, ?_⟩
    rcases l with l | ⟨k, c, e, z⟩
    · exact .inl l
    · exact .inr ⟨k, c, e, cellK x c e _ z⟩
  · obtain ⟨v, z⟩ := I.cell x c e
    exact ⟨v, cellK x c e v z⟩
  · obtain ⟨m, ⟨o, _, _, ho, _⟩, _⟩ := I.loc
    exact free _ o (fun z => (hch _ z).2.1 rfl) ho I.free
  · obtain ⟨v, o, ho, hd⟩ := I.cell x c e
    exact free c o (fun z => (hch c z).2.2.1 x c e rfl) ho (I.freeC x c e)
  · obtain ⟨e, n, ne, nf, d⟩ := I.pin p hp
    have nch : p.1 ∉ ch := fun z => (hch p.1 z).2.2.2 p hp rfl
    exact ⟨keep p.1 p.2 ne nf nch e n, free p.1 p.2 nch e n, ne, nf, d⟩
theorem Inv.un {t' : Nat} (I : Inv X pins σ H s) (u : Un X.fs [] H H' s.heap h') (hok : HOk X.prog X.w H' h') : Inv X pins σ H' { s with heap := h', toks := t' } := by
  obtain ⟨m, ⟨o, es, ep, ho, r⟩, _⟩ := id I.loc
  obtain ⟨sl, hL⟩ := u.any ho I.free (by simp)
  exact I.step (g' := s.gens) (d' := s.drawn) (ch := []) (fun _ z => nomatch z) (fun b o _ hb _ e n => u.keep b o e n hb (by simp)) (fun b o _ hb _ e n => u.slot b o e n hb (by simp)) (fun b o _ e n => u.free b o e n (by simp)) (fun b o _ e => u.there b o e (by simp)) u.tups u.frzs u.tbls (fun m' hm => by
    obtain ⟨o', es', ep', ho', r'⟩ := hm
    rw [ho] at ho'; cases ho'
    exact ⟨_, es', ep', hL, r'⟩) hok I.bare
theorem Inv.call {g' : Array GenState} {t' : Nat} {d' : Drawn} {ch : List Addr} (I : Inv X pins σ H s) (u : Un (frs X.stack) ch H H' s.heap h') (hok : HOk X.prog X.w H' h') (hg : AllBare g')
    (hch : ∀ b ∈ ch, (b ∈ X.ex ∨ X.s_0.heap.objs.size ≤ b) ∧ b ≠ X.env.locals ∧ (∀ x c, X.env.cells.lookup x = some c → c ≠ b) ∧ ∀ p ∈ X.pn ++ pins, p.1 ≠ b) :
    Inv X pins σ H' { s with heap := h', gens := g', drawn := d', toks := t' } := by
  obtain ⟨m, ⟨o, es, ep, ho, r⟩, _⟩ := id I.loc
  obtain ⟨sl, hL⟩ := u.any ho I.free fun z => (hch _ z).2.1 rfl
  exact I.step (ch := ch) hch (fun b o hL hb hc e n => u.keep b o e n (fun z => (List.mem_cons.mp (I.stkSub b z)).elim hL hb) hc) (fun b o _ _ hc e n => u.any e n hc) (fun b o hc e n => u.free b o e n hc) (fun b o hc e => u.there b o e hc) u.tups u.frzs u.tbls (fun m' hm => by
    obtain ⟨o', es', ep', ho', r'⟩ := hm
    rw [ho] at ho'; cases ho'
    exact ⟨_, es', ep', hL, r'⟩) hok hg
theorem Inv.turned {t' : Nat} {it : Addr} (I : Inv X pins σ H s) (k : ∀ b o, b ≠ it → s.heap.get? b = some o → h'.get? b = some o) (hn : H it = none) (hL : it ≠ X.env.locals)
    (h1 : it ∈ X.ex ∨ X.s_0.heap.objs.size ≤ it) (h2 : ∀ x c, X.env.cells.lookup x = some c → c ≠ it) (h3 : ∀ p ∈ X.pn ++ pins, p.1 ≠ it) : Inv X pins σ H { s with heap := h', toks := t' } := by
  have nit : ∀ b u, H b = some u → b ≠ it := fun b u e z => by rw [z, hn] at e; cases e
  refine I.step (g' := s.gens) (d' := s.drawn) (ch := [it]) (fun b hb => ?_) (fun b o _ _ hc e _ => k b o (fun z => hc (by simp [z])) e) (fun b o _ _ hc e _ => ⟨o.slots, k b o (fun z => hc (by simp [z])) e⟩) (fun _ _ _ _ n => n)
    (fun b o hc e => ⟨o, k b o (fun z => hc (by simp [z])) e⟩) (fun _ _ e => e) (fun _ _ _ e => e) (fun b ps e => ⟨#[], by rw [e]; simp⟩) (fun m hm => ?_) (fun b u e => ?_) I.bare
  · have e : b = it := by simpa using hb
    subst e
    exact ⟨h1, hL, h2, h3⟩
  · obtain ⟨o, es, ep, ho, r⟩ := hm
    exact ⟨o, es, ep, k _ o (Ne.symm hL) ho, r⟩
  · refine (I.hok b u e).stay (fun c v hc q => k c v ?_ q) (fun _ q => q) fun _ _ q => q
    rcases hc with z | z
    · rw [z]; exact nit b u e
    · exact nit c _ z
theorem Inv.tok (I : Inv X pins σ H s) (t : Nat) : Inv X pins σ H { s with toks := t } := I.un (h' := s.heap) (t' := t) Un.refl I.hok
theorem Inv.kept {t' : Nat} (I : Inv X pins σ H s) (k : ∀ b u, s.heap.get? b = some u → h'.get? b = some u) : Inv X pins σ H { s with heap := h', toks := t' } := I.un (Un.kept k) (I.hok.kept k)
theorem Inv.laid {a : Addr} {o : HO} {t' : Nat} (I : Inv X pins σ H s) (k : ∀ b u, s.heap.get? b = some u → h'.get? b = some u) (hp : s.heap.objs.size ≤ a) (new : ObjOk X.prog X.w (upd H a o) h' a o) :
    Inv X pins σ (upd H a o) { s with heap := h', toks := t' } := I.un (Un.laid k hp (I.hok.fresh hp)) (I.hok.laid k hp new)
theorem Inv.write {x e : Addr} {o : HO} {t' : Nat} (I : Inv X pins σ H s) (mu : Mut (H x)) (he : e = x ∨ H e = some (.own x)) (k : ∀ b u, b ≠ e → s.heap.get? b = some u → h'.get? b = some u) (heo : ∃ u, h'.get? e = some u)
    (new : ObjOk X.prog X.w (upd H x o) h' x o) : Inv X pins σ (upd H x o) { s with heap := h', toks := t' } := I.un (Un.write mu he k heo) (I.hok.write mu he k heo new)
theorem Inv.weak {σ' : List (Option V)} (I : Inv X pins σ H s) (hl : σ'.length = σ.length) (w : ∀ (i : Nat) v, σ'[i]? = some (some v) → σ[i]? = some (some v)) : Inv X pins σ' H s :=
  ⟨I.ok, I.os, I.bare, I.base, let ⟨m, hn, hl'⟩ := I.loc; ⟨m, hn, fun i x v e1 e2 e3 => hl' i x v e1 (w i v e2) e3⟩, I.cell, I.free, I.freeC, I.pin, I.hok, hl.trans I.len⟩
theorem Inv.pins_of {pins' : List (Addr × Obj)} (I : Inv X pins σ H s) (h : ∀ p ∈ pins', s.heap.get? p.1 = some p.2 ∧ H p.1 = none ∧ p.1 ≠ X.env.locals ∧ p.1 ∉ X.fs ∧ ∀ v, p.2.data ≠ .cell v) : Inv X pins' σ H s :=
  ⟨I.ok, I.os, I.bare, I.base, I.loc, I.cell, I.free, I.freeC, fun p hp => (List.mem_append.mp hp).elim (fun z => I.pin p (List.mem_append_left _ z)) (h p), I.hok, I.len⟩
theorem nodup_ix {N : List Str} (hN : N.Nodup) {i j : Nat} {x : Str} (a : N[i]? = some x) (b : N[j]? = some x) : i = j := by
  obtain ⟨h1, e1⟩ := List.getElem?_eq_some_iff.mp a
  obtain ⟨h2, e2⟩ := List.getElem?_eq_some_iff.mp b
  exact (List.getElem_inj hN).mp (e1.trans e2.symm)
theorem store_ok2 {M : Model} {A : Around} {E : Value → Shared → Prop} {i : Nat} {x : Str} {v : V} {u : Value} {Q : Unit → Shared → Prop} (I : Inv X pins σ H s) (hN : X.N.Nodup) (hi : X.N[i]? = some x) (hx : Loc X.env.scope x) (r : RelV v u)
    (h : ∀ s', Inv X pins (σ.set i (some v)) H s' → (∃ a, Heap.SameBut a s.heap s'.heap ∧ (a = X.env.locals ∨ X.env.cells.lookup x = some a)) → Q () s') (hf : X.fn x = true ∨ X.env.scope.names.lookup x = some .local := by first | exact .inl rfl | exact .inr rfl | assumption) : wpAny M A (storeName X.env x u) Q E s := by
  obtain ⟨m, hn, hl⟩ := id I.loc
  have hcls : (X.env.scope.kind == .class || (X.env.scope.kind == .module && X.env.locals != X.env.globals)) = false := by rw [I.ok.kind]; rfl
  have hiσ : i < σ.length := by rw [I.len]; exact (List.getElem?_eq_some_iff.mp hi).1
  have cne := I.cne
  have tracked : ∀ {a : Addr} {h' : Heap}, (∃ o, s.heap.get? a = some o ∧ H a = none) → Heap.SameBut a s.heap h' → HOk X.prog X.w H h' := fun {a h'} ha hs b ob e => by
    obtain ⟨_, _, hfree⟩ := ha
    refine (I.hok b ob e).stay (fun c w' hc q => (hs.2 c ?_).trans q) (fun _ q => q) fun _ _ q => q
    rintro rfl
    rcases hc with rfl | hc
    · rw [hfree] at e; cases e
    · rw [hfree] at hc; cases hc
  rcases hx with hk | hk
  · refine wpAny_storeName_local hk hn (fun h' hn' hs => ?_) hcls
    obtain ⟨oL, _, _, hoL, _⟩ := id hn
    refine h _ ⟨I.ok, I.os, I.bare, ⟨fun b o e n hb hx => ?_, fun b o e n hb hx => ?_, I.base.free, fun b o e hx => ?_, I.base.tups, I.base.frzs, I.base.tbls⟩, ⟨_, hn', fun j y v' e1 e2 e3 => ?_⟩, fun y c e => ?_, I.free, I.freeC, fun p hp => ?_, tracked ⟨oL, hoL, I.free⟩ hs, by simpa using I.len⟩ ⟨_, hs, .inl rfl⟩
    · exact (hs.2 b (Nat.ne_of_lt (Nat.lt_of_lt_of_le (Heap.lt_size e) I.ok.above))).trans (I.base.keep b o e n hb hx)
    · obtain ⟨sl, e1⟩ := I.base.slot b o e n hb hx
      exact ⟨sl, (hs.2 b (Nat.ne_of_lt (Nat.lt_of_lt_of_le (Heap.lt_size e) I.ok.above))).trans e1⟩
    · obtain ⟨o', e1⟩ := I.base.there b o e hx
      exact ⟨o', (hs.2 b (Nat.ne_of_lt (Nat.lt_of_lt_of_le (Heap.lt_size e) I.ok.above))).trans e1⟩
    · by_cases hj : j = i
      · subst hj
        rw [hi] at e1; cases e1
        rw [List.getElem?_set_self hiσ] at e2
        cases e2
        exact ⟨u, r, .inl ⟨hk, by simp⟩⟩
      · rw [List.getElem?_set_ne (Ne.symm hj)] at e2
        obtain ⟨u', r', q⟩ := hl j y v' e1 e2 e3
        refine ⟨u', r', ?_⟩
        rcases q with ⟨k, e⟩ | ⟨k, c, e, z⟩
        · refine .inl ⟨k, ?_⟩
          have : y ≠ x := fun e => hj (nodup_ix hN e1 (e ▸ hi))
          simp [this, e]
        · exact .inr ⟨k, c, e, z.sameBut hs (cne y c e)⟩
    · obtain ⟨w', z⟩ := I.cell y c e
      exact ⟨w', z.sameBut hs (cne y c e)⟩
    · obtain ⟨e, n, ne, nf, d⟩ := I.pin p hp
      exact ⟨(hs.2 p.1 ne).trans e, n, ne, nf, d⟩
  · have hfn : X.fn x = true := by
      rcases hf with z | z
      · exact z
      · rw [z] at hk; cases hk
    obtain ⟨c, hc⟩ := I.ok.has x (.inl hk)
    obtain ⟨w', z⟩ := I.cell x c hc
    refine wpAny_storeName_cell I.ok.kind hk hc z (fun h' hc' hs => ?_)
    obtain ⟨oc, hoc, hocd⟩ := id z
    refine h { s with heap := h' } ⟨I.ok, I.os, I.bare, ⟨fun b o e n hb hx => ?_, fun b o e n hb hx => ?_, I.base.free, fun b o e hx => ?_, I.base.tups, I.base.frzs, I.base.tbls⟩, ⟨m, hn.sameBut hs (Ne.symm (cne x c hc)), fun j y v' e1 e2 e3 => ?_⟩, fun y c' e => ?_, I.free, I.freeC, fun p hp => ?_, tracked ⟨oc, hoc, I.freeC x c hc⟩ hs, by simpa using I.len⟩ ⟨c, hs, .inr hc⟩
    · exact (hs.2 b (Nat.ne_of_lt (Nat.lt_of_lt_of_le (Heap.lt_size e) (I.ok.cab x c hfn hc)))).trans (I.base.keep b o e n hb hx)
    · obtain ⟨sl, e1⟩ := I.base.slot b o e n hb hx
      exact ⟨sl, (hs.2 b (Nat.ne_of_lt (Nat.lt_of_lt_of_le (Heap.lt_size e) (I.ok.cab x c hfn hc)))).trans e1⟩
    · obtain ⟨o', e1⟩ := I.base.there b o e hx
      exact ⟨o', (hs.2 b (Nat.ne_of_lt (Nat.lt_of_lt_of_le (Heap.lt_size e) (I.ok.cab x c hfn hc)))).trans e1⟩
    · by_cases hj : j = i
      · subst hj
        rw [hi] at e1; cases e1
        rw [List.getElem?_set_self hiσ] at e2
        cases e2
        exact ⟨u, r, .inr ⟨.inl hk, c, hc, hc'⟩⟩
      · rw [List.getElem?_set_ne (Ne.symm hj)] at e2
        obtain ⟨u', r', q⟩ := hl j y v' e1 e2 e3
        refine ⟨u', r', ?_⟩
        rcases q with q | ⟨k, c', e, z'⟩
        · exact .inl q
        · refine .inr ⟨k, c', e, z'.sameBut hs ?_⟩
          rintro rfl
          exact hj (nodup_ix hN e1 (I.ok.inj _ _ _ e hc ▸ hi))
    · by_cases hcc : c' = c
      · subst hcc; exact ⟨_, hc'⟩
      · obtain ⟨w2, z2⟩ := I.cell y c' e
        exact ⟨w2, z2.sameBut hs hcc⟩
    · obtain ⟨e, n, ne, nf, d⟩ := I.pin p hp
      refine ⟨(hs.2 p.1 ?_).trans e, n, ne, nf, d⟩
      intro q
      rw [q, hoc] at e
      have q' : oc = p.2 := Option.some.inj e
      exact d w' (by rw [← q']; exact hocd)
theorem store_ok {M : Model} {A : Around} {E : Value → Shared → Prop} {i : Nat} {x : Str} {v : V} {u : Value} {Q : Unit → Shared → Prop} (I : Inv X pins σ H s) (hN : X.N.Nodup) (hi : X.N[i]? = some x) (hx : Loc X.env.scope x) (r : RelV v u)
    (h : ∀ s', Inv X pins (σ.set i (some v)) H s' → Q () s') (hf : X.fn x = true ∨ X.env.scope.names.lookup x = some .local := by first | exact .inl rfl | exact .inr rfl | assumption) : wpAny M A (storeName X.env x u) Q E s :=
  store_ok2 I hN hi hx r (fun s' I' _ => h s' I') hf
theorem Inv.call' {s' : Shared} {ch : List Addr} (I : Inv X pins σ H s) (ho : s'.os = s.os) (u : Un (frs X.stack) ch H H' s.heap s'.heap) (hok : HOk X.prog X.w H' s'.heap) (hg : AllBare s'.gens)
    (hch : ∀ b ∈ ch, (b ∈ X.ex ∨ X.s_0.heap.objs.size ≤ b) ∧ b ≠ X.env.locals ∧ (∀ x c, X.env.cells.lookup x = some c → c ≠ b) ∧ ∀ p ∈ X.pn ++ pins, p.1 ≠ b) : Inv X pins σ H' s' := by
  obtain ⟨h', g', d', t', o'⟩ := s'
  have e : o' = s.os := ho
  subst e
  exact I.call (g' := g') (t' := t') (d' := d') u hok hg hch
end
abbrev XK := Value → Option Addr → Hp → Prop
abbrev St := List (Option V)
abbrev VK := V → Hp → Prop
abbrev TE := St → Hp → VK → Prop
abbrev TT := St → Hp → (Bool → Hp → Prop) → Prop
abbrev TA := St → Hp → (List V → Hp → Prop) → Prop
structure Ends where
  nx : St → Hp → Prop
  rt : VK
  bk : St → Hp → Prop := fun _ _ => False
  ct : St → Hp → Prop := fun _ _ => False
abbrev TS := Ends → St → Hp → Prop
def EP (X : Cx) (pins : List (Addr × Obj)) (σ : St) (Q : VK) (u : Value) (s' : Shared) : Prop := ∃ v H', Inv X pins σ H' s' ∧ RelV v u ∧ Q v H'
def TP (X : Cx) (pins : List (Addr × Obj)) (σ : St) (Q : Bool → Hp → Prop) (b : Bool) (s' : Shared) : Prop := ∃ H', Inv X pins σ H' s' ∧ Q b H'
def AP (X : Cx) (pins : List (Addr × Obj)) (σ : St) (Q : List V → Hp → Prop) (us : List Value) (s' : Shared) : Prop := ∃ vs H', Inv X pins σ H' s' ∧ Vals vs us ∧ Q vs H'
def SP (X : Cx) (pins : List (Addr × Obj)) (D : Ends) (f : Flow) (s' : Shared) : Prop :=
  match f with
  | .next => ∃ σ' H', Inv X pins σ' H' s' ∧ D.nx σ' H'
  | .brk => ∃ σ' H', Inv X pins σ' H' s' ∧ D.bk σ' H'
  | .cont => ∃ σ' H', Inv X pins σ' H' s' ∧ D.ct σ' H'
  | .ret u => ∃ v σ' H', Inv X pins σ' H' s' ∧ RelV v u ∧ D.rt v H'
def PE (X : Cx) (e : Expr) (t : TE) : Prop :=
  ∀ (pins : List (Addr × Obj)) (s : Shared) (σ : St) (H : Hp) (Q : VK), Inv X pins σ H s → t σ H Q → wpAny (model X.prog X.w) X.A (eval e X.env) (EP X pins σ Q) X.xe s
def PT (X : Cx) (e : Expr) (t : TT) : Prop :=
  ∀ (pins : List (Addr × Obj)) (s : Shared) (σ : St) (H : Hp) (Q : Bool → Hp → Prop), Inv X pins σ H s → t σ H Q → wpAny (model X.prog X.w) X.A (isTrue e X.env (eval e X.env)) (TP X pins σ Q) X.xe s
def PW (X : Cx) (e : Expr) (t : TT) : Prop :=
  ∀ (whole : Sem Value) (pins : List (Addr × Obj)) (s : Shared) (σ : St) (H : Hp) (Q : Bool → Hp → Prop), Inv X pins σ H s → t σ H Q → wpAny (model X.prog X.w) X.A (isTrue e X.env whole) (TP X pins σ Q) X.xe s
theorem PW.pt {X : Cx} {e : Expr} {t : TT} (h : PW X e t) : PT X e t := h _
def PA (X : Cx) (es : List Expr) (t : TA) : Prop :=
  ∀ (pos : Pos) (pins : List (Addr × Obj)) (s : Shared) (σ : St) (H : Hp) (Q : List V → Hp → Prop), Inv X pins σ H s → t σ H Q → wpAny (model X.prog X.w) X.A (spliced (backTo pos (starEach es X.env))) (AP X pins σ Q) X.xe s
def PS (X : Cx) (st : Stmt) (t : TS) : Prop :=
  ∀ (pins : List (Addr × Obj)) (s : Shared) (σ : St) (H : Hp) (D : Ends), Inv X pins σ H s → t D σ H → wpAny (model X.prog X.w) X.A (exec st X.env) (SP X pins D) X.xe s
def PSs (X : Cx) (st : List Stmt) (t : TS) : Prop :=
  ∀ (pins : List (Addr × Obj)) (s : Shared) (σ : St) (H : Hp) (D : Ends), Inv X pins σ H s → t D σ H → wpAny (model X.prog X.w) X.A (execs st X.env) (SP X pins D) X.xe s
theorem thn {α : Type} {t : Sem α} {Q Q' : α → Shared → Prop} {M : Model} {A : Around} {E : Value → Shared → Prop} {s : Shared} (h : wpAny M A t Q E s) (hQ : ∀ a s, Q a s → Q' a s) : wpAny M A t Q' E s := wpAny_mono h hQ fun _ _ x => x
end L2
namespace L2
open PySem PySem.Spec PyProof.Rows
section
variable {X : Cx}
theorem bin {a b : Expr} {ta tb : TE} (ha : PE X a ta) (hb : PE X b tb) {pins : List (Addr × Obj)} {s : Shared} {σ : St} {H : Hp} {R : V → V → Hp → Prop} (I : Inv X pins σ H s) (h : ta σ H fun x H1 => tb σ H1 fun y H2 => R x y H2)
    {α : Type} {Q : α → Shared → Prop} {f : Value → Value → Sem α}
    (hf : ∀ v u s2 x y H2, Inv X pins σ H2 s2 → RelV x v → RelV y u → R x y H2 → wpAny (model X.prog X.w) X.A (f v u) Q X.xe s2) :
    wpAny (model X.prog X.w) X.A (eval a X.env) (fun v s₁ => wpAny (model X.prog X.w) X.A (eval b X.env) (fun u s₂ => wpAny (model X.prog X.w) X.A (f v u) Q X.xe s₂) X.xe s₁) X.xe s := by
  refine thn (ha pins s σ H _ I h) fun v s1 ⟨x, H1, I1, r1, q1⟩ => ?_
  refine thn (hb pins s1 σ H1 _ I1 q1) fun u s2 ⟨y, H2, I2, r2, q2⟩ => ?_
  exact hf v u s2 x y H2 I2 r1 r2 q2
def tVar (i : Nat) : TE := fun σ H Q => ∃ v, σ[i]? = some (some v) ∧ Q v H
def tC (v : V) : TE := fun _ H Q => Q v H
theorem pe_var {i : Nat} {x : Str} {pos : Pos} (hN : X.N[i]? = some x) (hv : Vis X.env.scope x) (hd : (x == ("__debug__" : Str)) = false := by decide) (hcd : (x == ("__classdict__" : Str)) = false := by decide) : PE X (.Name x pos) (tVar i) := by
  intro pins s σ H Q I h
  obtain ⟨v, e, h⟩ := h
  obtain ⟨m, hn, hl⟩ := I.loc
  obtain ⟨u, r, l⟩ := hl i x v hN e hv
  have fin : EP X pins σ Q u s := ⟨v, H, I, r, h⟩
  rcases l with ⟨hk, hm⟩ | ⟨hk, c, hc, hcell⟩
  · exact wpAny_Name (wpAny_loadName_local I.ok.kind hk hn hm fin) hd
  · rcases hk with hk | hk
    · exact wpAny_Name (wpAny_loadName_cell I.ok.kind hk hc hcell fin) hd
    · exact wpAny_Name (wpAny_loadName_free I.ok.kind hk hc hcell fin hcd) hd
theorem pe_int {i j pos} : PE X (.Constant (.int i) j pos) (tC (.int i)) := fun _ _ _ H _ I h => wpAny_Constant_int ⟨.int i, H, I.tok _, ⟨_, rfl⟩, h⟩
theorem pe_bl {b j pos} : PE X (.Constant (.bool b) j pos) (tC (.bl b)) := fun _ _ _ H _ I h => Constant_bool ⟨.bl b, H, I, rfl, h⟩
theorem pe_non {j pos} : PE X (.Constant .none j pos) (tC .non) := fun _ _ _ H _ I h => Constant_none ⟨.non, H, I, rfl, h⟩
theorem pe_str {x j pos} : PE X (.Constant (.str x) j pos) (tC (.str x)) := fun _ _ _ H _ I h => Calls.Constant_str ⟨.str x, H, I.tok _, ⟨_, rfl⟩, h⟩
def Gl (X : Cx) (x : Str) : Prop := X.env.kindOf x = some .globalImplicit
theorem ld_glob {E : Value → Shared → Prop} {pins : List (Addr × Obj)} {s : Shared} {σ : St} {H : Hp} {x : Str} {u : Value} {pos : Pos} {Q : Value → Shared → Prop} (I : Inv X pins σ H s) (hg : Gl X x) (hm : X.mg x = some u) (h : Q u s)
    (hd : (x == ("__debug__" : Str)) = false := by decide) : wpAny (model X.prog X.w) X.A (eval (.Name x pos) X.env) Q E s :=
  Calls.Name_function_global I.ok.kind hg (Calls.loadGlobal_global (by rw [I.ok.glob]; exact I.mod.glob.keeps I.bk) hm h) hd
theorem ld_blt {E : Value → Shared → Prop} {pins : List (Addr × Obj)} {s : Shared} {σ : St} {H : Hp} {x : Str} {u : Value} {pos : Pos} {Q : Value → Shared → Prop} (I : Inv X pins σ H s) (hg : Gl X x) (hm : X.mg x = none) (hv : bootBuiltins x = some u) (h : Q u s)
    (hn : x ≠ "__name__" := by decide) (hd : (x == ("__debug__" : Str)) = false := by decide) : wpAny (model X.prog X.w) X.A (eval (.Name x pos) X.env) Q E s := by
  obtain ⟨mb, h1, h2⟩ := I.mod.blt
  exact Calls.Name_function_global I.ok.kind hg (Calls.loadGlobal_builtin (by rw [I.ok.glob]; exact I.mod.glob.keeps I.bk) hm (by rw [I.ok.blt]; exact h1.keeps I.bk) ((h2 x hn).trans hv) h) hd
theorem pe_glob {x : Str} {v : V} {u : Value} {pos : Pos} (hg : Gl X x) (hm : X.mg x = some u) (r : RelV v u) (hd : (x == ("__debug__" : Str)) = false := by decide) : PE X (.Name x pos) (tC v) :=
  fun _ _ _ H _ I h => ld_glob I hg hm ⟨v, H, I, r, h⟩ hd
theorem pe_bltn {x : Str} {v : V} {u : Value} {pos : Pos} (hg : Gl X x) (hm : X.mg x = none) (hv : bootBuiltins x = some u) (r : RelV v u) (hn : x ≠ "__name__" := by decide) (hd : (x == ("__debug__" : Str)) = false := by decide) : PE X (.Name x pos) (tC v) :=
  fun _ _ _ H _ I h => ld_blt I hg hm hv ⟨v, H, I, r, h⟩ hn hd
variable {a b : Expr} {ta tb : TE} {pos : Pos}
def PC (X : Cx) (op : CmpOp) (a b : Expr) (t : TE) : Prop :=
  ∀ (pins : List (Addr × Obj)) (s : Shared) (σ : St) (H : Hp) (Q : VK), Inv X pins σ H s → t σ H Q →
    wpAny (model X.prog X.w) X.A (eval a X.env) (fun v s₁ => wpAny (model X.prog X.w) X.A (eval b X.env) (fun u s₂ => wpAny (model X.prog X.w) X.A (compareOp op v u) (EP X pins σ Q) X.xe s₂) X.xe s₁) X.xe s
theorem nobehind (b : Expr) {op : CmpOp} (h : op ≠ .In) (h2 : op ≠ .NotIn) : behindInMarks op b = false := by
  have e1 : (op == CmpOp.In) = false := by cases op <;> first | rfl | exact absurd rfl h
  have e2 : (op == CmpOp.NotIn) = false := by cases op <;> first | rfl | exact absurd rfl h2
  cases b <;> simp [behindInMarks, e1, e2]
def tB (t : TE) : TT := fun σ H Q => t σ H fun x H1 => ∃ c, x = .bl c ∧ Q c H1
theorem pt_cmp {op : CmpOp} {t : TE} (h : PC X op a b t) (h1 : behindInMarks op b = false := by first | exact nobehind _ (by decide) (by decide) | rfl) : PT X (.Compare a [op] [b] pos) (tB t) := by
  intro pins s σ H Q I hw
  refine wpAny_isTrue_Compare1 (thn (h pins s σ H _ I hw) fun v s1 h1 => thn h1 fun u s2 h2 => thn h2 fun c s3 ⟨x, H1, I1, r1, q1⟩ => ?_) h1
  obtain ⟨d, rfl, q⟩ := q1
  cases r1
  exact wpAny_truthy_bool ⟨H1, I1, q⟩
theorem pt_val {e : Expr} {t : TE} (h : PE X e t) (he : ∀ whole, isTrue e X.env whole = (do let v ← whole; standAt e.pos; holding [v] (truthy v)) := by intro _; rfl) : PT X e (tB t) := by
  intro pins s σ H Q I hw
  refine isTrue_plain (thn (h pins s σ H _ I hw) fun v s1 ⟨x, H1, I1, r1, q1⟩ => ?_) (he _)
  obtain ⟨d, rfl, q⟩ := q1
  cases r1
  exact wpAny_truthy_bool ⟨H1, I1, q⟩
variable {tA tB' : TT} {rest : List Expr}
def tAnd (t u : TT) : TT := fun σ H Q => t σ H fun c H1 => if c = true then u σ H1 Q else Q false H1
def tOr (t u : TT) : TT := fun σ H Q => t σ H fun c H1 => if c = true then Q true H1 else u σ H1 Q
def tNot (t : TT) : TT := fun σ H Q => t σ H fun c H1 => Q (!c) H1
theorem pw_and1 (ha : PT X a tA) : PW X (.BoolOp .And [a] pos) tA := by
  intro wh pins s σ H Q I h
  refine isTrue_and (thn (ha pins s σ H Q I h) fun c s1 e => ?_)
  cases c with
  | true => exact isTrue_and_nil e
  | false => exact e
theorem pw_or1 (ha : PT X a tA) : PW X (.BoolOp .Or [a] pos) tA := by
  intro wh pins s σ H Q I h
  refine isTrue_or (thn (ha pins s σ H Q I h) fun c s1 e => ?_)
  cases c with
  | false => exact isTrue_or_nil e
  | true => exact e
theorem pw_and (ha : PT X a tA) (hb : PW X (.BoolOp .And (b :: rest) pos) tB') : PW X (.BoolOp .And (a :: b :: rest) pos) (tAnd tA tB') := by
  intro wh pins s σ H Q I h
  refine isTrue_and (thn (ha pins s σ H _ I h) fun c s1 ⟨H1, I1, q1⟩ => ?_)
  cases c with
  | true => exact hb wh pins s1 σ H1 Q I1 q1
  | false => exact ⟨H1, I1, q1⟩
theorem pw_or (ha : PT X a tA) (hb : PW X (.BoolOp .Or (b :: rest) pos) tB') : PW X (.BoolOp .Or (a :: b :: rest) pos) (tOr tA tB') := by
  intro wh pins s σ H Q I h
  refine isTrue_or (thn (ha pins s σ H _ I h) fun c s1 ⟨H1, I1, q1⟩ => ?_)
  cases c with
  | true => exact ⟨H1, I1, q1⟩
  | false => exact hb wh pins s1 σ H1 Q I1 q1
theorem pt_not (ha : PT X a tA) : PT X (.UnaryOp .Not a pos) (tNot tA) := by
  intro pins s σ H Q I h
  exact isTrue_not (ha pins s σ H (fun c H1 => Q (!c) H1) I h)
def tAndV (ta tb : TE) : TE := fun σ H Q => ta σ H fun x H1 => ∃ c, x = .bl c ∧ if c = true then tb σ H1 Q else Q (.bl false) H1
theorem pe_one {op} {t : TE} (h : PE X a t) : PE X (.BoolOp op [a] pos) t := fun pins s σ H Q I hw => BoolOp_one (h pins s σ H Q I hw)
theorem pe_and (ha : PE X a ta) (hb : PE X (.BoolOp .And (b :: rest) pos) tb) : PE X (.BoolOp .And (a :: b :: rest) pos) (tAndV ta tb) := by
  intro pins s σ H Q I h
  refine BoolOp_and (thn (ha pins s σ H _ I h) fun v s1 ⟨x, H1, I1, r1, q1⟩ => ?_)
  obtain ⟨c, rfl, q1⟩ := q1
  cases r1
  refine wpAny_truthy_bool ?_
  cases c with
  | true => exact hb pins s1 σ H1 Q I1 q1
  | false => exact ⟨.bl false, H1, I1, rfl, q1⟩
def tIf (t : TT) (ta tb : TE) : TE := fun σ H Q => t σ H fun c H1 => if c = true then ta σ H1 Q else tb σ H1 Q
theorem pe_ifExp {c : Expr} (hc : PT X c tA) (ha : PE X a ta) (hb : PE X b tb) : PE X (.IfExp c a b pos) (tIf tA ta tb) := by
  intro pins s σ H Q I h
  refine wpAny_IfExp (thn (hc pins s σ H _ I h) fun d s1 ⟨H1, I1, q1⟩ => ?_)
  cases d with
  | true => exact ha pins s1 σ H1 Q I1 q1
  | false => exact hb pins s1 σ H1 Q I1 q1
end
end L2
namespace L2
open PySem PySem.Spec PyProof.Rows
def SqL (K : PySem.W.Frag) (H : Hp) (a : Addr) (xs : List V) : Prop :=
  Rd H a (.lst xs) ∨
    ∃ (o : Obj) (its : Array Value) (n : Nat), K.lookup a = some o ∧ o.cls = .type "list" ∧ o.dict = none ∧ o.data = .seq its n ∧ its.size ≤ sizeLine ∧ Vals xs its.toList
def SqT (K : PySem.W.Frag) (H : Hp) (a : Addr) (xs : List V) : Prop :=
  Rd H a (.tup xs) ∨
    ∃ (o : Obj) (its : Array Value) (n : Nat), K.lookup a = some o ∧ o.cls = .type "tuple" ∧ o.data = .seq its n ∧ its.size ≤ sizeLine ∧ Vals xs its.toList
def absV : Value → Option V
  | .none => some .non
  | .bool b => some (.bl b)
  | .int i _ => some (.int i)
  | .str x _ => some (.str x)
  | .bytes b _ => some (.byt b)
  | .float b _ => some (.flt b)
  | .ref a => some (.ref a)
  | .type n => some (.ty n)
  | _ => none
theorem RelV.abs {x : V} {u : Value} (r : RelV x u) : absV u = some x := by
  cases x with
  | non => cases r; rfl
  | bl _ => cases r; rfl
  | int _ => obtain ⟨t, rfl⟩ := r; rfl
  | str _ => obtain ⟨t, rfl⟩ := r; rfl
  | byt _ => obtain ⟨t, rfl⟩ := r; rfl
  | flt _ => obtain ⟨t, rfl⟩ := r; rfl
  | ref _ => cases r; rfl
  | ty _ => cases r; rfl
theorem RelV.inj {x y : V} {u : Value} (r : RelV x u) (q : RelV y u) : x = y := Option.some.inj (r.abs.symm.trans q.abs)
theorem Vals.inj : ∀ {xs ys : List V} {us : List Value}, Vals xs us → Vals ys us → xs = ys
  | _, _, _, .nil, .nil => rfl
  | _, _, _, .cons r t, .cons r' t' => by rw [r.inj r', Vals.inj t t']
section
variable {X : Cx} {pins : List (Addr × Obj)} {σ : St} {H : Hp} {s : Shared} {a : Addr} {xs ys : List V}
theorem SqL.of {K : PySem.W.Frag} (h : H a = some (.lst xs)) : SqL K H a xs := .inl (.inl h)
theorem SqT.of {K : PySem.W.Frag} (h : H a = some (.tup xs)) : SqT K H a xs := .inl (.inl h)
theorem Inv.list (I : Inv X pins σ H s) (h : SqL X.K H a xs) : ∃ its : List Value, Vals xs its ∧ PlainL s.heap a its.toArray ∧ xs.length ≤ sizeLine := by
  rcases h with h | ⟨o, its, n, hk, hc, hd, hs, hz, r⟩
  · obtain ⟨z, its, n, r, e⟩ := h.ok I.hok
    exact ⟨its, r, ⟨_, n, e, rfl, rfl, rfl⟩, z⟩
  · refine ⟨its.toList, r, ⟨o, n, I.kIn a o hk, hc, hd, by simpa using hs⟩, ?_⟩
    have e := r.length
    simp only [Array.length_toList] at e
    omega
theorem Inv.tuple (I : Inv X pins σ H s) (h : SqT X.K H a xs) : ∃ its : List Value, Vals xs its ∧ IsTup s.heap a its.toArray ∧ xs.length ≤ sizeLine := by
  rcases h with h | ⟨o, its, n, hk, hc, hs, hz, r⟩
  · obtain ⟨z, its, r, p⟩ := h.ok I.hok
    exact ⟨its, r, p, z⟩
  · refine ⟨its.toList, r, ⟨o, I.kIn a o hk, hc, n, by simpa using hs⟩, ?_⟩
    have e := r.length
    simp only [Array.length_toList] at e
    omega
theorem Inv.list_inj (I : Inv X pins σ H s) (h : SqL X.K H a xs) (h' : SqL X.K H a ys) : xs = ys := by
  obtain ⟨its, r, ⟨o, n, e, _, _, d⟩, _⟩ := I.list h
  obtain ⟨its', r', ⟨o', n', e', _, _, d'⟩, _⟩ := I.list h'
  rw [e] at e'; cases e'
  rw [d] at d'
  injection d' with d1 _
  have : its = its' := by simpa using congrArg Array.toList d1
  subst this
  exact r.inj r'
theorem Inv.tuple_inj (I : Inv X pins σ H s) (h : SqT X.K H a xs) (h' : SqT X.K H a ys) : xs = ys := by
  obtain ⟨its, r, ⟨o, e, _, n, d⟩, _⟩ := I.tuple h
  obtain ⟨its', r', ⟨o', e', _, n', d'⟩, _⟩ := I.tuple h'
  rw [e] at e'; cases e'
  rw [d] at d'
  injection d' with d1 _
  have : its = its' := by simpa using congrArg Array.toList d1
  subst this
  exact r.inj r'
end
abbrev Cx.wish (X : Cx) (E : Value → Shared → Prop) : Cx := { X with xe := E }
abbrev Cx.nox (X : Cx) : Cx := X.wish fun _ _ => False
theorem Cx.Ok.wish {X : Cx} (ok : X.Ok) (E : Value → Shared → Prop) : (X.wish E).Ok :=
  ⟨ok.mod, ok.kind, ok.glob, ok.blt, ok.above, ok.inj, ok.has, ok.cab, ok.hd, ok.frames, ok.stk, ok.exf, ok.bs, ok.bsz, ok.noex, ok.exfs, ok.funs, ok.frf⟩
theorem Cx.Ok.unwish {X : Cx} {E : Value → Shared → Prop} (ok : (X.wish E).Ok) : X.Ok :=
  ⟨ok.mod, ok.kind, ok.glob, ok.blt, ok.above, ok.inj, ok.has, ok.cab, ok.hd, ok.frames, ok.stk, ok.exf, ok.bs, ok.bsz, ok.noex, ok.exfs, ok.funs, ok.frf⟩
section
variable {X : Cx} {pins : List (Addr × Obj)} {σ : St} {H : Hp} {s : Shared} {E : Value → Shared → Prop}
theorem Inv.wish (I : Inv X pins σ H s) (E : Value → Shared → Prop) : Inv (X.wish E) pins σ H s := ⟨I.ok.wish E, I.os, I.bare, I.base, I.loc, I.cell, I.free, I.freeC, I.pin, I.hok, I.len⟩
theorem Inv.unwish (I : Inv (X.wish E) pins σ H s) : Inv X pins σ H s := ⟨I.ok.unwish, I.os, I.bare, I.base, I.loc, I.cell, I.free, I.freeC, I.pin, I.hok, I.len⟩
theorem SP.unwish {D : Ends} {f : Flow} {s' : Shared} (h : SP (X.wish E) pins D f s') : SP X pins D f s' := by
  cases f with
  | next => obtain ⟨σ', H', I, q⟩ := h; exact ⟨σ', H', I.unwish, q⟩
  | brk => obtain ⟨σ', H', I, q⟩ := h; exact ⟨σ', H', I.unwish, q⟩
  | cont => obtain ⟨σ', H', I, q⟩ := h; exact ⟨σ', H', I.unwish, q⟩
  | ret u => obtain ⟨v, σ', H', I, r, q⟩ := h; exact ⟨v, σ', H', I.unwish, r, q⟩
theorem PE.nox {e : Expr} {t : TE} (h : PE X.nox e t) : PE X e t := fun pins s σ H Q I hw =>
  wpAny_mono (h pins s σ H Q (I.wish _) hw) (fun _ _ ⟨v, H', I', r, q⟩ => ⟨v, H', I'.unwish, r, q⟩) fun _ _ z => False.elim z
theorem PT.nox {e : Expr} {t : TT} (h : PT X.nox e t) : PT X e t := fun pins s σ H Q I hw =>
  wpAny_mono (h pins s σ H Q (I.wish _) hw) (fun _ _ ⟨H', I', q⟩ => ⟨H', I'.unwish, q⟩) fun _ _ z => False.elim z
theorem PSs.nox {st : List Stmt} {t : TS} (h : PSs X.nox st t) : PSs X st t := fun pins s σ H D I hw =>
  wpAny_mono (h pins s σ H D (I.wish _) hw) (fun _ _ q => q.unwish) fun _ _ z => False.elim z
end
section
variable {X : Cx} {st : Stmt} {rest : List Stmt} {t u : TS} {e : Expr} {te : TE} {pos : Pos}
def tNext : TS := fun D σ H => D.nx σ H
def tSeq (t u : TS) : TS := fun D σ H => t { D with nx := u D } σ H
theorem pss_nil : PSs X [] tNext := fun _ _ σ H _ I h => wpAny_execs_nil ⟨σ, H, I, h⟩
theorem pss_cons (h1 : PS X st t) (h2 : PSs X rest u) : PSs X (st :: rest) (tSeq t u) := by
  intro pins s σ H D I h
  refine wpAny_execs_cons (thn (h1 pins s σ H { D with nx := u D } I h) fun f s1 q => ?_)
  cases f with
  | next =>
    obtain ⟨σ', H', I', q⟩ := q
    exact h2 pins s1 σ' H' D I' q
  | ret v => exact q
  | brk => exact q
  | cont => exact q
theorem pss_one (h1 : PS X st t) : PSs X [st] t := by
  intro pins s σ H D I h
  refine wpAny_execs_cons (thn (h1 pins s σ H D I h) fun f s1 q => ?_)
  cases f with
  | next => exact wpAny_execs_nil q
  | ret v => exact q
  | brk => exact q
  | cont => exact q
theorem Inv.quiet {pins : List (Addr × Obj)} {σ : St} {H : Hp} {s : Shared} (I : Inv X pins σ H s) : interactive X.env = false := by simp [interactive, I.ok.kind]
def tDrop (te : TE) : TS := fun D σ H => te σ H fun _ H1 => D.nx σ H1
theorem ps_expr (he : PE X e te) (hs : swapsWith e none pos.line X.env = pure false := by rfl) : PS X (.Expr e pos) (tDrop te) := by
  intro pins s σ H D I h
  exact wpAny_Expr_any (thn (he pins s σ H _ I h) fun v s1 ⟨x, H1, I1, r1, q1⟩ => ⟨σ, H1, I1, q1⟩) I.quiet hs
def tRet (te : TE) : TS := fun D σ H => te σ H D.rt
theorem ps_ret (he : PE X e te) : PS X (.Return (some e) pos) (tRet te) := by
  intro pins s σ H D I h
  exact wpAny_Return_some (thn (he pins s σ H _ I h) fun v s1 ⟨x, H1, I1, r1, q1⟩ => ⟨x, σ, H1, I1, r1, q1⟩)
def tIfS (c : TT) (t u : TS) : TS := fun D σ H => c σ H fun b H1 => if b = true then t D σ H1 else u D σ H1
theorem ps_if {c : Expr} {a b : List Stmt} {tc : TT} (hc : PT X c tc) (ha : PSs X a t) (hb : PSs X b u) : PS X (.If c a b pos) (tIfS tc t u) := by
  intro pins s σ H D I h
  refine wpAny_If (thn (hc pins s σ H _ I h) fun d s1 ⟨H1, I1, q1⟩ => ?_)
  cases d with
  | true => exact ha pins s1 σ H1 D I1 q1
  | false => exact hb pins s1 σ H1 D I1 q1
def tNever : TS := fun _ _ _ => False
theorem pss_never {sts : List Stmt} : PSs X sts tNever := fun _ _ _ _ _ _ h => h.elim
end
abbrev TG := V → St → Hp → (St → Hp → Prop) → Prop
abbrev TGs := List V → St → Hp → (St → Hp → Prop) → Prop
def PG (X : Cx) (target : Expr) (t : TG) : Prop :=
  ∀ (pins : List (Addr × Obj)) (s : Shared) (σ : St) (H : Hp) (v : V) (u : Value) (Q : St → Hp → Prop), Inv X pins σ H s → RelV v u → t v σ H Q →
    wpAny (model X.prog X.w) X.A (assign target X.env u) (fun _ s' => ∃ σ' H', Inv X pins σ' H' s' ∧ Q σ' H') X.xe s
def PGs (X : Cx) (ts : List Expr) (t : TGs) : Prop :=
  ∀ (pins : List (Addr × Obj)) (s : Shared) (σ : St) (H : Hp) (vs : List V) (us : List Value) (Q : St → Hp → Prop), Inv X pins σ H s → Vals vs us → t vs σ H Q →
    wpAny (model X.prog X.w) X.A (assignInOrder ((assignEach ts X.env).map (·.2)) us) (fun _ s' => ∃ σ' H', Inv X pins σ' H' s' ∧ Q σ' H') X.xe s
abbrev TSet := V → V → V → Hp → (Hp → Prop) → Prop
def PSet (X : Cx) (t : TSet) : Prop :=
  ∀ (pins : List (Addr × Obj)) (s : Shared) (σ : St) (H : Hp) (o i v : V) (ov iv u : Value) (Q : Hp → Prop), Inv X pins σ H s → RelV o ov → RelV i iv → RelV v u → t o i v H Q →
    wpAny (model X.prog X.w) X.A (setItem ov iv u) (fun _ s' => ∃ H', Inv X pins σ H' s' ∧ Q H') X.xe s
section
variable {X : Cx} {pos : Pos}
def gName (i : Nat) : TG := fun v σ H Q => Q (σ.set i (some v)) H
theorem pg_name {i : Nat} {x : Str} (hN : X.N.Nodup) (hi : X.N[i]? = some x) (hx : Loc X.env.scope x) (hf : X.fn x = true ∨ X.env.scope.names.lookup x = some .local := by first | exact .inl rfl | exact .inr rfl | assumption) : PG X (.Name x pos) (gName i) := by
  intro pins s σ H v u Q I r h
  exact wpAny_assign_Name (store_ok I hN hi hx r (fun s' I' => ⟨_, H, I', h⟩) hf)
def gNil : TGs := fun vs σ H Q => vs = [] ∧ Q σ H
def gCons (t : TG) (u : TGs) : TGs := fun vs σ H Q => ∃ v r, vs = v :: r ∧ t v σ H fun σ' H' => u r σ' H' Q
theorem pgs_nil : PGs X [] gNil := by
  intro pins s σ H vs us Q I r h
  obtain ⟨e, h⟩ := h
  subst e
  cases r
  exact assignInOrder_nil ⟨σ, H, I, h⟩
theorem pgs_cons {e : Expr} {es : List Expr} {t : TG} {u : TGs} (h1 : PG X e t) (h2 : PGs X es u)
    (hs : (assignEach (e :: es) X.env).map (·.2) = assign e X.env :: (assignEach es X.env).map (·.2) := by rfl) : PGs X (e :: es) (gCons t u) := by
  intro pins s σ H vs us Q I r h
  obtain ⟨v, vr, e1, h⟩ := h
  subst e1
  cases r with
  | cons r rr =>
    rw [hs]
    refine assignInOrder_cons (thn (h1 pins s σ H _ _ _ I r h) fun _ s1 ⟨σ1, H1, I1, q1⟩ => ?_)
    exact h2 pins s1 σ1 H1 _ _ Q I1 rr q1
def gTup (K : PySem.W.Frag) (n : Nat) (t : TGs) : TG := fun v σ H Q => ∃ a xs, v = .ref a ∧ SqT K H a xs ∧ xs.length = n ∧ t xs σ H Q
theorem pg_tup {es : List Expr} {k : Nat} {t : TGs} {n : Nat} (hc : X.calm = true) (h : PGs X es t)
    (hn : (assignEach es X.env).length = n := by rfl) (hst : (assignEach es X.env).findIdx? (·.1) = none := by rfl) : PG X (.Tuple es k pos) (gTup X.K n t) := by
  intro pins s σ H v u Q I r hw
  obtain ⟨a, xs, e1, hq, hl, hw⟩ := hw
  subst e1
  cases r
  obtain ⟨its, rv, ht, hz⟩ := I.tuple hq
  refine assign_Tuple_tuple (I.ok.hd hc) ht (by simp [hn, ← hl, rv.length]) hst fun h' hx => ?_
  have I1 : Inv X pins σ H { s with heap := h' } := I.kept (t' := s.toks) fun b o e => hx b o (Nat.ne_of_lt (Heap.lt_size e)) e
  exact h pins _ σ H xs _ Q I1 (by simpa using rv) hw
def gSub (to ti : TE) (t : TSet) : TG := fun v σ H Q => to σ H fun o H1 => ti σ H1 fun i H2 => t o i v H2 fun H3 => Q σ H3
theorem pg_sub {o i : Expr} {to ti : TE} {t : TSet} (ho : PE X o to) (hi : PE X i ti) (hs : PSet X t)
    (ha : ∀ v, assign (.Subscript o i pos) X.env v = (do
      let ov ← holding [v] (eval o X.env)
      let iv ← holding [v, ov] (eval i X.env)
      standAt pos
      holding [v, ov, iv] (setItem ov iv v)
      release [v, ov, iv] []) := by intro _; rfl) : PG X (.Subscript o i pos) (gSub to ti t) := by
  intro pins s σ H v u Q I r h
  rw [ha]
  refine wpAny_bind (wpAny_holding (thn (ho pins s σ H _ I h) fun ov s1 ⟨x, H1, I1, r1, q1⟩ => ?_))
  refine wpAny_bind (wpAny_holding (thn (hi pins s1 σ H1 _ I1 q1) fun iv s2 ⟨y, H2, I2, r2, q2⟩ => ?_))
  refine wpAny_bind (wpAny_standAt (wpAny_bind (wpAny_holding (thn (hs pins s2 σ H2 x y v ov iv u _ I2 r1 r2 r q2) fun _ s3 ⟨H3, I3, q3⟩ => ?_))))
  exact wpAny_release ⟨σ, H3, I3, q3⟩
def tAsg (te : TE) (g : TG) : TS := fun D σ H => te σ H fun x H1 => g x σ H1 D.nx
theorem ps_asg {tg e : Expr} {te : TE} {g : TG} (he : PE X e te) (hg : PG X tg g) (hs : swapsWithSole [tg] e pos.line X.env = pure false := by rfl) (hw : swappedStores [tg] e X.env = pure none := by rfl)
    (h1 : (assignEach [tg] X.env).map (·.2) = [assign tg X.env] := by rfl) : PS X (.Assign [tg] e pos) (tAsg te g) := by
  intro pins s σ H D I h
  refine wpAny_Assign_stores (thn (he pins s σ H _ I h) fun v s1 ⟨x, H1, I1, r1, q1⟩ => ?_) hs hw
  rw [h1]
  exact thn (hg pins s1 σ H1 x v _ I1 r1 q1) fun _ s2 q => q
theorem ps_set {i : Nat} {x : Str} {e : Expr} {te : TE} {pos' : Pos} (hN : X.N.Nodup) (hi : X.N[i]? = some x) (hx : Loc X.env.scope x) (he : PE X e te) (hs : swapsWith e (some (.Name x pos')) pos.line X.env = pure false := by rfl) (hf : X.fn x = true ∨ X.env.scope.names.lookup x = some .local := by first | exact .inl rfl | exact .inr rfl | assumption) :
    PS X (.Assign [.Name x pos'] e pos) (tAsg te (gName i)) := by
  intro pins s σ H D I h
  refine wpAny_Assign_Name (thn (he pins s σ H _ I h) fun v s1 ⟨y, H1, I1, r1, q1⟩ => ?_) hs
  exact store_ok I1 hN hi hx r1 (fun s2 I2 => ⟨_, H1, I2, q1⟩) hf
end
section
variable {X : Cx} {pos : Pos}
end
structure It where
  go : Nat → Hp → Prop
  yld : Nat → Hp → V → Hp → Prop
  stop : Nat → Hp → Prop
def FpOk (X : Cx) (pins : List (Addr × Obj)) (H : Hp) (b : Addr) : Prop :=
  H b = none ∧ b ≠ X.env.locals ∧ b ∉ X.fs ∧ (b ∈ X.ex ∨ X.s_0.heap.objs.size ≤ b) ∧ (∀ x c, X.env.cells.lookup x = some c → c ≠ b) ∧ ∀ p ∈ X.pn ++ pins, p.1 ≠ b
theorem Inv.fpOk {X : Cx} {pins : List (Addr × Obj)} {σ : St} {H H' : Hp} {s : Shared} {b : Addr} (I : Inv X pins σ H s) (hb : s.heap.objs.size ≤ b) (hn : H' b = none) : FpOk X pins H' b := by
  refine ⟨hn, Nat.ne_of_gt (Nat.lt_of_lt_of_le I.lt hb), I.nofs hb, .inr (Nat.le_trans I.sz hb), fun x c e z => ?_, fun p hp z => ?_⟩
  · obtain ⟨v, q⟩ := I.cell x c e
    exact absurd (Nat.lt_of_lt_of_le q.lt (by rw [z]; exact hb)) (Nat.lt_irrefl _)
  · exact absurd (Nat.lt_of_lt_of_le (Heap.lt_size (I.pin p hp).1) (by rw [z]; exact hb)) (Nat.lt_irrefl _)
structure Turn (P : Program) (w : World) (K : PySem.W.Frag) (tg : Expr) (J : It) (fp : List Addr) (it : Addr) (tn : Nat → Heap → Prop) : Prop where
  mem : it ∈ fp
  obj : ∀ i h, tn i h → ∀ b ∈ fp, ∃ o, h.get? b = some o ∧ ∀ v, o.data ≠ .cell v
  keep : ∀ i h h', tn i h → (∀ b ∈ fp, ∀ o, h.get? b = some o → h'.get? b = some o) → tn i h'
  item : ∀ (X : Cx), X.prog = P → X.w = w → X.K = K → X.calm = true → ∀ (i : Nat) (pins : List (Addr × Obj)) (s : Shared) (σ : St) (H : Hp) (E : Value → Shared → Prop), Inv X pins σ H s → (∀ b ∈ fp, FpOk X pins H b) → tn i s.heap → J.go i H →
    wpAny (model P w) X.A (pyNext (.ref it)) (fun r s1 => ∃ u, r = some u ∧
      wpAny (model P w) X.A (letOwnedTupleGo tg (.ref it) u) (fun _ s2 => ∃ x H', Inv X pins σ H' s2 ∧ RelV x u ∧ J.yld i H x H' ∧ tn (i + 1) s2.heap ∧ ∀ b ∈ fp, H' b = none) E s1) E s
  done : ∀ (X : Cx), X.prog = P → X.w = w → X.K = K → X.calm = true → ∀ (i : Nat) (pins : List (Addr × Obj)) (s : Shared) (σ : St) (H : Hp) (E : Value → Shared → Prop), Inv X pins σ H s → (∀ b ∈ fp, FpOk X pins H b) → tn i s.heap → J.stop i H →
    wpAny (model P w) X.A (pyNext (.ref it)) (fun r s1 => r = none ∧ Inv X pins σ H s1) E s
  self : ∀ (A : Around) (i : Nat) (s : Shared) (Q : Value → Shared → Prop) (E : Value → Shared → Prop), tn i s.heap → Q (.ref it) s → wpAny (model P w) A (pyIter (.ref it)) Q E s
abbrev TI := St → Hp → (It → Hp → Prop) → Prop
def PIE (X : Cx) (pins : List (Addr × Obj)) (σ : St) (tg : Expr) (R : It → Hp → Prop) (itv : Value) (s2 : Shared) : Prop :=
  ∃ (it : Addr) (fp : List Addr) (tn : Nat → Heap → Prop) (J : It) (H' : Hp), itv = .ref it ∧ Inv X pins σ H' s2 ∧ Turn X.prog X.w X.K tg J fp it tn ∧ tn 0 s2.heap ∧ (∀ b ∈ fp, FpOk X pins H' b) ∧ R J H'
def PI (X : Cx) (tg iter : Expr) (wi : TI) : Prop :=
  ∀ (pins : List (Addr × Obj)) (s : Shared) (σ : St) (H : Hp) (R : It → Hp → Prop), Inv X pins σ H s → wi σ H R →
    wpAny (model X.prog X.w) X.A (eval iter X.env) (fun v s1 => wpAny (model X.prog X.w) X.A (pyIter v) (PIE X pins σ tg R) X.xe s1) X.xe s
theorem go_of {M : Model} {A : Around} {E : Value → Shared → Prop} {s : Shared} {tg : Expr} {it : Addr} {u : Value} {o : Obj} {n : String} {vs : Array Value} {Q : Unit → Shared → Prop} (ho : s.heap.get? it = some o) (hc : o.cls = .type n) (hd : o.data = .fields vs)
    (hn : ["enumerate", "zip", "dict_itemiterator", "dict_reverseitemiterator", "odict_iterator", "itertools.zip_longest", "itertools.pairwise"].contains n = false) (hQ : Q () s) : wpAny M A (letOwnedTupleGo tg (.ref it) u) Q E s := by
  unfold letOwnedTupleGo
  cases tg <;> first
    | exact wpAny_pure hQ
    | (cases u <;> first
        | exact wpAny_pure hQ
        | (refine wpAny_bind (wpAny_load ho ?_)
           rw [hc, hd]
           show wpAny M A (if (["enumerate", "zip", "dict_itemiterator", "dict_reverseitemiterator", "odict_iterator", "itertools.zip_longest", "itertools.pairwise"].contains n && vs[0]? == some (rawInt _)) = true then _ else _) Q E s
           rw [if_neg (by intro h; rw [hn, Bool.false_and] at h; cases h)]
           exact wpAny_pure hQ))
def Itl (K : PySem.W.Frag) (a : Addr) : It :=
  ⟨fun i H => ∃ xs x, SqL K H a xs ∧ xs[i]? = some x, fun i H x H' => H' = H ∧ ∀ xs, SqL K H a xs → xs[i]? = some x, fun i H => ∃ xs, SqL K H a xs ∧ xs.length ≤ i⟩
def Itt (K : PySem.W.Frag) (a : Addr) : It :=
  ⟨fun i H => ∃ xs x, SqT K H a xs ∧ xs[i]? = some x, fun i H x H' => H' = H ∧ ∀ xs, SqT K H a xs → xs[i]? = some x, fun i H => ∃ xs, SqT K H a xs ∧ xs.length ≤ i⟩
def Itr (lo : Int) (n : Nat) : It := ⟨fun i _ => i < n, fun i H x H' => H' = H ∧ x = .int (lo + i), fun i _ => n ≤ i⟩
theorem turn_list {P : Program} {w : World} {K : PySem.W.Frag} {tg : Expr} (a it : Addr) : Turn P w K tg (Itl K a) [it] it (fun i h => h.IsListIter it a i) where
  mem := by simp
  obj := fun i h st b hb => by
    have e : b = it := by simpa using hb
    subst e
    obtain ⟨o, e, c, d⟩ := st
    exact ⟨o, e, fun v z => by rw [d] at z; cases z⟩
  keep := fun i h h' st k => st.at fun o e => k it (by simp) o e
  item := by
    intro X hP hw hK hc i pins s σ H E I hf st hg
    subst hP hw hK
    obtain ⟨xs, x, hq, hx⟩ := hg
    obtain ⟨its, rv, p, hz⟩ := I.list hq
    obtain ⟨u, hu, ru⟩ := rv.get hx
    obtain ⟨f0, f1, f2, f3, f4, f5⟩ := hf it (by simp)
    refine wpAny_pyNext_list_item st p.isList (x := u) (by simpa using hu) fun h' st' sb => ?_
    have I1 : Inv X pins σ H { s with heap := h' } := I.turned (t' := s.toks) (fun b o hb e => (sb.2 b hb).trans e) f0 f1 f3 f4 f5
    obtain ⟨o, e, c, d⟩ := id st'
    exact ⟨u, rfl, go_of (s := { s with heap := h' }) e c d (by decide) ⟨x, H, I1, ru, ⟨rfl, fun ys hy => by rw [I.list_inj hy hq]; exact hx⟩, st', fun b hb => (hf b hb).1⟩⟩
  done := by
    intro X hP hw hK hc i pins s σ H E I hf st hg
    subst hP hw hK
    obtain ⟨xs, hq, hx⟩ := hg
    obtain ⟨its, rv, p, hz⟩ := I.list hq
    obtain ⟨f0, f1, f2, f3, f4, f5⟩ := hf it (by simp)
    have hl := rv.length
    exact wpAny_pyNext_list_end (I.ok.hd hc) st p.isList (by simp; omega) fun h' eb => ⟨rfl, I.turned (t' := s.toks) (fun b o hb e => eb b o hb e) f0 f1 f3 f4 f5⟩
  self := fun _ _ _ _ _ st h => wpAny_pyIter_listiter st h
theorem turn_tuple {P : Program} {w : World} {K : PySem.W.Frag} {tg : Expr} (a it : Addr) : Turn P w K tg (Itt K a) [it] it (fun i h => h.IsTupleIter it a i) where
  mem := by simp
  obj := fun i h st b hb => by
    have e : b = it := by simpa using hb
    subst e
    obtain ⟨o, e, c, d⟩ := st
    exact ⟨o, e, fun v z => by rw [d] at z; cases z⟩
  keep := fun i h h' st k => st.at fun o e => k it (by simp) o e
  item := by
    intro X hP hw hK hc i pins s σ H E I hf st hg
    subst hP hw hK
    obtain ⟨xs, x, hq, hx⟩ := hg
    obtain ⟨its, rv, p, hz⟩ := I.tuple hq
    obtain ⟨u, hu, ru⟩ := rv.get hx
    obtain ⟨f0, f1, f2, f3, f4, f5⟩ := hf it (by simp)
    refine wpAny_pyNext_tuple_item st (show s.heap.IsTuple a its.toArray from p) (x := u) (by simpa using hu) fun h' st' sb => ?_
    have I1 : Inv X pins σ H { s with heap := h' } := I.turned (t' := s.toks) (fun b o hb e => (sb.2 b hb).trans e) f0 f1 f3 f4 f5
    obtain ⟨o, e, c, d⟩ := id st'
    exact ⟨u, rfl, go_of (s := { s with heap := h' }) e c d (by decide) ⟨x, H, I1, ru, ⟨rfl, fun ys hy => by rw [I.tuple_inj hy hq]; exact hx⟩, st', fun b hb => (hf b hb).1⟩⟩
  done := by
    intro X hP hw hK hc i pins s σ H E I hf st hg
    subst hP hw hK
    obtain ⟨xs, hq, hx⟩ := hg
    obtain ⟨its, rv, p, hz⟩ := I.tuple hq
    obtain ⟨f0, f1, f2, f3, f4, f5⟩ := hf it (by simp)
    have hl := rv.length
    exact wpAny_pyNext_tuple_end (I.ok.hd hc) st (show s.heap.IsTuple a its.toArray from p) (by simp; omega) fun h' eb => ⟨rfl, I.turned (t' := s.toks) (fun b o hb e => eb b o hb e) f0 f1 f3 f4 f5⟩
  self := fun _ _ _ _ _ st h => wpAny_pyIter_tupleiter st h
theorem turn_range {P : Program} {w : World} {K : PySem.W.Frag} {tg : Expr} (it : Addr) (lo : Int) (n : Nat) : Turn P w K tg (Itr lo n) [it] it (fun i h => IsRangeIter h it (lo + (i : Nat) * 1) ((n : Int) - (i : Nat)) 1) where
  mem := by simp
  obj := fun i h st b hb => by
    have e : b = it := by simpa using hb
    subst e
    exact ⟨_, st, fun v z => by
      have z' : Data.fields _ = Data.cell v := z
      cases z'⟩
  keep := fun i h h' st k => k it (by simp) _ st
  item := by
    intro X hP hw hK hc i pins s σ H E I hf st hg
    subst hP hw hK
    obtain ⟨f0, f1, f2, f3, f4, f5⟩ := hf it (by simp)
    have W := Walks.range (prog := X.prog) (w := X.w) (I.ok.hd hc) it lo 1 n
    refine W.item i s _ _ hg st fun v h' tk hv st' kk => ?_
    obtain ⟨t, rfl⟩ := hv
    have I1 : Inv X pins σ H { s with heap := h', toks := tk } := I.turned (fun b o hb e => kk b o (by simpa using hb) e) f0 f1 f3 f4 f5
    refine ⟨_, rfl, go_of (s := { s with heap := h', toks := tk }) (n := "range_iterator") st' rfl rfl (by decide) ⟨.int (lo + i), H, I1, ⟨t, ?_⟩, ⟨rfl, rfl⟩, st', fun b hb => (hf b hb).1⟩⟩
    rw [Int.mul_one]
  done := by
    intro X hP hw hK hc i pins s σ H E I hf st hg
    subst hP hw hK
    obtain ⟨f0, f1, f2, f3, f4, f5⟩ := hf it (by simp)
    exact wpAny_pyNext_range_end (I.ok.hd hc) st (by have : n ≤ i := hg; omega) fun h' eb => ⟨rfl, I.turned (t' := s.toks) (fun b o hb e => eb b o hb e) f0 f1 f3 f4 f5⟩
  self := fun _ _ _ _ _ st h => wpAny_pyIter_rangeiter st h
end L2
namespace L2
open PySem PySem.Spec PyProof.Rows
section
variable {X : Cx} {tg : Expr}
def iList (K : PySem.W.Frag) (tl : TE) : TI := fun σ H R => tl σ H fun x H1 => ∃ a, x = .ref a ∧ (∃ xs, SqL K H1 a xs) ∧ R (Itl K a) H1
def iTup (K : PySem.W.Frag) (tl : TE) : TI := fun σ H R => tl σ H fun x H1 => ∃ a, x = .ref a ∧ (∃ xs, SqT K H1 a xs) ∧ R (Itt K a) H1
theorem pi_list {l : Expr} {tl : TE} (hl : PE X l tl) : PI X tg l (iList X.K tl) := by
  intro pins s σ H R I h
  refine thn (hl pins s σ H _ I h) fun v s1 ⟨x, H1, I1, r1, q1⟩ => ?_
  obtain ⟨a, e, ⟨xs, hq⟩, q⟩ := q1
  subst e
  cases r1
  obtain ⟨its, rv, p, hz⟩ := I1.list hq
  refine wpAny_pyIter_list p.isList ?_
  refine ⟨s1.heap.objs.size, [s1.heap.objs.size], _, _, H1, rfl, I1.kept (t' := s1.toks) fun b o e => Heap.get?_push_of_some _ e, turn_list a _, ⟨_, Heap.get?_push_size _ rfl, rfl, rfl⟩, fun b hb => ?_, q⟩
  have e : b = s1.heap.objs.size := by simpa using hb
  subst e
  exact I1.fpOk (Nat.le_refl _) (I1.hok.fresh (Nat.le_refl _))
theorem pi_tup {l : Expr} {tl : TE} (hl : PE X l tl) : PI X tg l (iTup X.K tl) := by
  intro pins s σ H R I h
  refine thn (hl pins s σ H _ I h) fun v s1 ⟨x, H1, I1, r1, q1⟩ => ?_
  obtain ⟨a, e, ⟨xs, hq⟩, q⟩ := q1
  subst e
  cases r1
  obtain ⟨its, rv, p, hz⟩ := I1.tuple hq
  refine wpAny_pyIter_tuple (show s1.heap.IsTuple a its.toArray from p) ?_
  refine ⟨s1.heap.objs.size, [s1.heap.objs.size], _, _, H1, rfl, I1.kept (t' := s1.toks) fun b o e => Heap.get?_push_of_some _ e, turn_tuple a _, ⟨_, Heap.get?_push_size _ rfl, rfl, rfl⟩, fun b hb => ?_, q⟩
  have e : b = s1.heap.objs.size := by simpa using hb
  subst e
  exact I1.fpOk (Nat.le_refl _) (I1.hok.fresh (Nat.le_refl _))
theorem range_it {pins : List (Addr × Obj)} {σ : St} {H : Hp} {s : Shared} {R : It → Hp → Prop} {E : Value → Shared → Prop} {lo hi : Int} {t u v : Tok} {tk : Nat} (I : Inv X pins σ H s) (h1 : -(2 ^ 62) ≤ lo) (h2 : lo < 2 ^ 62) (h3 : -(2 ^ 62) ≤ hi) (h4 : hi < 2 ^ 62)
    (q : R (Itr lo (hi - lo).toNat) H) : wpAny (model X.prog X.w) X.A (pyIter (.ref s.heap.objs.size)) (PIE X pins σ tg R) E { s with heap := s.heap.push { cls := .type "range", data := .fields #[.int lo t, .int hi u, .int 1 v] }, toks := tk } := by
  refine wpAny_pyIter_range (IsRange.new ..) (small_one h1 h2 h3 h4) ?_
  have I1 : Inv X pins σ H { s with heap := s.heap.push { cls := .type "range", data := .fields #[.int lo t, .int hi u, .int 1 v] }, toks := tk } := I.kept fun b o e => Heap.get?_push_of_some _ e
  refine ⟨(s.heap.push { cls := .type "range", data := .fields #[.int lo t, .int hi u, .int 1 v] }).objs.size, [(s.heap.push { cls := .type "range", data := .fields #[.int lo t, .int hi u, .int 1 v] }).objs.size], _, _, H, rfl,
    I1.kept (t' := tk) fun b o e => Heap.get?_push_of_some _ e, turn_range _ lo (hi - lo).toNat, ?_, fun b hb => ?_, q⟩
  · have e1 : lo + ((0 : Nat) : Int) * 1 = lo := by simp
    have e2 : (((hi - lo).toNat : Nat) : Int) - ((0 : Nat) : Int) = Builtin.Range.rangeSize lo hi 1 := by rw [rangeSize_one]; split <;> omega
    show IsRangeIter _ _ (lo + ((0 : Nat) : Int) * 1) ((((hi - lo).toNat : Nat) : Int) - ((0 : Nat) : Int)) 1
    rw [e1, e2]
    exact Heap.get?_push_size _ rfl
  · have e : b = (s.heap.push { cls := .type "range", data := .fields #[.int lo t, .int hi u, .int 1 v] }).objs.size := by simpa using hb
    subst e
    exact I1.fpOk (Nat.le_refl _) (I1.hok.fresh (Nat.le_refl _))
def iRng1 (ta : TA) : TI := fun σ H R => ta σ H fun vs H1 => ∃ j : Int, vs = [.int j] ∧ -(2 ^ 62) ≤ j ∧ j < 2 ^ 62 ∧ R (Itr 0 j.toNat) H1
theorem pi_range1 {a : Expr} {ta : TA} {p pos : Pos} (hg : Gl X "range") (hm : X.mg "range" = none) (ha : PA X [a] ta) (hs : starEach [a] X.env = [(false, eval a X.env)] := by rfl) : PI X tg (.Call (.Name "range" p) [a] [] pos) (iRng1 ta) := by
  intro pins s σ H R I h
  refine Call_ (ld_blt I hg hm boot_range (PyProof.Rows.callWith_type1 (thn (ha pos pins s σ H _ I h) fun us s1 ⟨vs, H1, I1, r1, q1⟩ => ?_) hs rfl))
  obtain ⟨j, e, q1, q2, q⟩ := q1
  subst e
  cases r1 with
  | cons r rr =>
    cases rr
    obtain ⟨t, rfl⟩ := r
    exact call_range_1 (range_it I1 (by omega) (by omega) q1 q2 (by simpa using q))
def tFor (wi : TI) (g : TG) (tb : TS) : TS := fun D σ H => wi σ H fun J H1 => ∃ W : Nat → Nat → St → Hp → Prop, (∃ m, W 0 m σ H1) ∧ ∀ i m σ H, W i m σ H →
  (J.stop i H ∧ D.nx σ H) ∨ (J.go i H ∧ ∃ N : St → Hp → Prop, (∀ σ' H', N σ' H' → ∃ m', m' < m ∧ W (i + 1) m' σ' H') ∧ ∀ x H', J.yld i H x H' → g x σ H' fun σ2 H2 => tb { D with nx := N, ct := N, bk := D.nx } σ2 H2)
def pinsAt (fp : List Addr) (h : Heap) : List (Addr × Obj) := fp.filterMap fun b => (h.get? b).map fun o => (b, o)
theorem mem_pinsAt {fp : List Addr} {h : Heap} {b : Addr} {o : Obj} (hb : b ∈ fp) (e : h.get? b = some o) : (b, o) ∈ pinsAt fp h := List.mem_filterMap.mpr ⟨b, hb, by rw [e]; rfl⟩
theorem of_pinsAt {fp : List Addr} {h : Heap} {p : Addr × Obj} (hp : p ∈ pinsAt fp h) : p.1 ∈ fp ∧ h.get? p.1 = some p.2 := by
  obtain ⟨b, hb, e⟩ := List.mem_filterMap.mp hp
  cases q : h.get? b with
  | none => rw [q] at e; cases e
  | some o =>
    rw [q] at e
    have e' : (b, o) = p := Option.some.inj e
    subst e'
    exact ⟨hb, q⟩
theorem Inv.pinned {pins : List (Addr × Obj)} {σ : St} {H : Hp} {s : Shared} {fp : List Addr} (I : Inv X pins σ H s) (hf : ∀ b ∈ fp, FpOk X pins H b) (ho : ∀ b ∈ fp, ∃ o, s.heap.get? b = some o ∧ ∀ v, o.data ≠ .cell v) : Inv X (pins ++ pinsAt fp s.heap) σ H s :=
  I.pins_of fun p hp => (List.mem_append.mp hp).elim (fun z => I.pin p (List.mem_append_right _ z)) fun z => by
    obtain ⟨hb, e⟩ := of_pinsAt z
    obtain ⟨f0, f1, f2, _⟩ := hf p.1 hb
    obtain ⟨o, e', d⟩ := ho p.1 hb
    rw [e] at e'; cases e'
    exact ⟨e, f0, f1, f2, d⟩
theorem Inv.unpinned {pins pl : List (Addr × Obj)} {σ : St} {H : Hp} {s : Shared} (I : Inv X (pins ++ pl) σ H s) : Inv X pins σ H s := I.pins_of fun p hp => I.pin p (List.mem_append_right _ (List.mem_append_left _ hp))
theorem ps_for {iter : Expr} {body : List Stmt} {wi : TI} {g : TG} {tb : TS} {pos : Pos} (hp : PassesOwn (model X.prog X.w) X.A X.env X.xe) (hc : X.calm = true) (hi : PI X tg iter wi) (hg : PG X tg g) (hb : PSs X body tb)
    (hs : ∀ x, foldedSetIterable iter X.env x = pure x := by intro _; rfl) : PS X (.For tg iter body [] pos) (tFor wi g tb) := by
  intro pins s σ H D I h
  refine wpAny_For (thn (hi pins s σ H _ I h) fun v s1 h1 => thn h1 fun itv s2 h2 => ?_) hs
  obtain ⟨it, fp, tn, J, H2, e, I2, T, st2, f2, W, ⟨m0, w0⟩, turn⟩ := h2
  subst e
  -- what stays true of the iterator's objects through the loop
  have stat : ∀ {H' : Hp}, (∀ b ∈ fp, H' b = none) → ∀ b ∈ fp, FpOk X pins H' b := fun hn b hb => ⟨hn b hb, (f2 b hb).2⟩
  refine codeAny_forLoop_any (fun n s' => ∃ i σ' H', Inv X pins σ' H' s' ∧ tn i s'.heap ∧ (∀ b ∈ fp, H' b = none) ∧ W i n σ' H') ?_ m0 ⟨0, σ, H2, I2, st2, fun b hb => (f2 b hb).1, w0⟩
  rintro n s3 ⟨i, σ3, H3, I3, st3, fr3, w3⟩
  rcases turn i n σ3 H3 w3 with ⟨stop, qn⟩ | ⟨go, N, hN, step⟩
  · refine wpAny_passesOwn hp (thn (T.done X rfl rfl rfl hc i pins s3 σ3 H3 X.xe I3 (stat fr3) st3 stop) fun r s4 ⟨hr, I4⟩ => ?_)
    subst hr
    exact wpAny_execs_nil ⟨σ3, H3, I4, qn⟩
  · refine wpAny_passesOwn hp (thn (T.item X rfl rfl rfl hc i pins s3 σ3 H3 X.xe I3 (stat fr3) st3 go) fun r s4 ⟨u, hr, h4⟩ => ?_)
    subst hr
    refine wpAny_passesOwn hp (thn h4 fun _ s5 ⟨x, H5, I5, r5, y5, st5, fr5⟩ => ?_)
    have I5' := I5.pinned (stat fr5) (T.obj _ _ st5)
    refine wpAny_passesOwn hp (thn (hg _ s5 σ3 H5 x u _ I5' r5 (step x H5 y5)) fun _ s6 ⟨σ6, H6, I6, q6⟩ => ?_)
    refine wpAny_passesOwn hp (thn (hb _ s6 σ6 H6 _ I6 q6) fun f s7 q7 => ?_)
    have again : ∀ {σ7 : St} {H7 : Hp}, Inv X (pins ++ pinsAt fp s5.heap) σ7 H7 s7 → N σ7 H7 → ∃ m, m < n ∧ ∃ i σ' H', Inv X pins σ' H' s7 ∧ tn i s7.heap ∧ (∀ b ∈ fp, H' b = none) ∧ W i m σ' H' := fun {σ7 H7} I7 n7 => by
      obtain ⟨m', hm, w7⟩ := hN σ7 H7 n7
      refine ⟨m', hm, i + 1, σ7, H7, I7.unpinned, T.keep _ _ _ st5 fun b hb o e => (I7.pin (b, o) (List.mem_append_right _ (List.mem_append_right _ (mem_pinsAt hb e)))).1, fun b hb => ?_, w7⟩
      obtain ⟨o, e, d⟩ := T.obj _ _ st5 b hb
      exact (I7.pin (b, o) (List.mem_append_right _ (List.mem_append_right _ (mem_pinsAt hb e)))).2.1
    cases f with
    | next => obtain ⟨σ7, H7, I7, n7⟩ := q7; exact again I7 n7
    | cont => obtain ⟨σ7, H7, I7, n7⟩ := q7; exact again I7 n7
    | brk => obtain ⟨σ7, H7, I7, q7⟩ := q7; exact ⟨σ7, H7, I7.unpinned, q7⟩
    | ret v => obtain ⟨x7, σ7, H7, I7, r7, q7⟩ := q7; exact ⟨x7, σ7, H7, I7.unpinned, r7, q7⟩
end
theorem for_range {lo : Int} {n : Nat} {g : TG} {tb : TS} {D : Ends} {σ : St} {H : Hp} (Pv : Nat → St → Hp → Prop) (h0 : Pv 0 σ H)
    (hs : ∀ i σ H, i < n → Pv i σ H → g (.int (lo + i)) σ H fun σ2 H2 => tb { D with nx := Pv (i + 1), ct := Pv (i + 1), bk := D.nx } σ2 H2) (hd : ∀ σ H, Pv n σ H → D.nx σ H) :
    ∃ W : Nat → Nat → St → Hp → Prop, (∃ m, W 0 m σ H) ∧ ∀ i m σ H, W i m σ H →
      ((Itr lo n).stop i H ∧ D.nx σ H) ∨ ((Itr lo n).go i H ∧ ∃ N : St → Hp → Prop, (∀ σ' H', N σ' H' → ∃ m', m' < m ∧ W (i + 1) m' σ' H') ∧ ∀ x H', (Itr lo n).yld i H x H' → g x σ H' fun σ2 H2 => tb { D with nx := N, ct := N, bk := D.nx } σ2 H2) := by
  refine ⟨fun i m σ H => m = n - i ∧ i ≤ n ∧ Pv i σ H, ⟨n, by simp, Nat.zero_le _, h0⟩, ?_⟩
  rintro i m σ H ⟨rfl, hi, p⟩
  by_cases hlt : i < n
  · refine .inr ⟨hlt, Pv (i + 1), fun σ' H' p' => ⟨n - (i + 1), by omega, rfl, hlt, p'⟩, fun x H' y => ?_⟩
    obtain ⟨e, y⟩ := y
    subst e y
    exact hs i σ _ hlt p
  · have e : i = n := by omega
    subst e
    exact .inl ⟨Nat.le_refl _, hd σ H p⟩
end L2
namespace L2
open PySem PySem.Spec PyProof.Rows
abbrev R2 := V → V → Hp → VK → Prop
def OpR (X : Cx) (f : Value → Value → Sem Value) (r : R2) : Prop :=
  ∀ (pins : List (Addr × Obj)) (s : Shared) (σ : St) (H : Hp) (x y : V) (v u : Value) (Q : VK), Inv X pins σ H s → RelV x v → RelV y u → r x y H Q →
    wpAny (model X.prog X.w) X.A (f v u) (EP X pins σ Q) X.xe s
def UnR (X : Cx) (f : Value → Sem Value) (r : V → Hp → VK → Prop) : Prop :=
  ∀ (pins : List (Addr × Obj)) (s : Shared) (σ : St) (H : Hp) (x : V) (v : Value) (Q : VK), Inv X pins σ H s → RelV x v → r x H Q →
    wpAny (model X.prog X.w) X.A (f v) (EP X pins σ Q) X.xe s
def CallR (X : Cx) (f : Value) (r : List V → Hp → VK → Prop) : Prop :=
  ∀ (pins : List (Addr × Obj)) (s : Shared) (σ : St) (H : Hp) (xs : List V) (us : List Value) (Q : VK), Inv X pins σ H s → Vals xs us → r xs H Q →
    wpAny (model X.prog X.w) X.A (call f us) (EP X pins σ Q) X.xe s
def TruR (X : Cx) (r : V → Hp → (Bool → Hp → Prop) → Prop) : Prop :=
  ∀ (pins : List (Addr × Obj)) (s : Shared) (σ : St) (H : Hp) (x : V) (v : Value) (Q : Bool → Hp → Prop), Inv X pins σ H s → RelV x v → r x H Q →
    wpAny (model X.prog X.w) X.A (truthy v) (TP X pins σ Q) X.xe s
def tOp (r : R2) (ta tb : TE) : TE := fun σ H Q => ta σ H fun x H1 => tb σ H1 fun y H2 => r x y H2 Q
def tUn (r : V → Hp → VK → Prop) (ta : TE) : TE := fun σ H Q => ta σ H fun x H1 => r x H1 Q
def rI (C : Int → Int → Prop) (g : Int → Int → V) : R2 := fun x y H Q => ∃ i j, x = .int i ∧ y = .int j ∧ C i j ∧ Q (g i j) H
def rI0 (g : Int → Int → V) : R2 := fun x y H Q => ∃ i j, x = .int i ∧ y = .int j ∧ Q (g i j) H
def rU (g : Int → V) : V → Hp → VK → Prop := fun x H Q => ∃ i, x = .int i ∧ Q (g i) H
section
variable {X : Cx} {a b c : Expr} {ta tb tc : TE} {pos : Pos}
theorem binT (ha : PE X a ta) (hb : PE X b tb) {pins : List (Addr × Obj)} {s : Shared} {σ : St} {H : Hp} {R : V → V → Hp → Prop} (I : Inv X pins σ H s)
    (h : ta σ H fun x H1 => tb σ H1 fun y H2 => R x y H2) {Q : Value → Shared → Prop} {f : Value → Value → Sem Value}
    (hf : ∀ v u s2 x y H2, Inv X pins σ H2 s2 → RelV x v → RelV y u → R x y H2 → wpAny (model X.prog X.w) X.A (f v u) Q X.xe s2) :
    wpAny (model X.prog X.w) X.A (eval a X.env) (fun v s₁ => wpAny (model X.prog X.w) X.A (eval b X.env) (fun u s₂ => wpAny (model X.prog X.w) X.A (f v u) Q X.xe s₂) X.xe s₁) X.xe s := by
  refine thn (ha pins s σ H _ I h) fun v s1 ⟨x, H1, I1, r1, q1⟩ => ?_
  refine thn (hb pins s1 σ H1 _ I1 q1) fun u s2 ⟨y, H2, I2, r2, q2⟩ => ?_
  exact hf v u s2 x y H2 I2 r1 r2 q2
theorem pe_op {op : Operator} {r : R2} (ho : OpR X (binaryOp op) r) (ha : PE X a ta) (hb : PE X b tb) : PE X (.BinOp a op b pos) (tOp r ta tb) := by
  intro pins s σ H Q I h
  exact wpAny_BinOp (binT ha hb I h fun v u s2 x y H2 I2 rx ry q => ho pins s2 σ H2 x y v u Q I2 rx ry q)
theorem pe_un {op : UnaryOp} {r : V → Hp → VK → Prop} (ho : UnR X (unaryOp op) r) (ha : PE X a ta) : PE X (.UnaryOp op a pos) (tUn r ta) := by
  intro pins s σ H Q I h
  exact UnaryOp_ (thn (ha pins s σ H _ I h) fun v s1 ⟨x, H1, I1, r1, q1⟩ => ho pins s1 σ H1 x v Q I1 r1 q1)
theorem opI {f : Value → Value → Sem Value} {C : Int → Int → Prop} {g : Int → Int → Int}
    (rule : ∀ (i j : Int) (t u : Tok) (s : Shared) (Q : Value → Shared → Prop) (E : Value → Shared → Prop), C i j → Q (.int (g i j) s.toks) { s with toks := s.toks + 1 } → wpAny (model X.prog X.w) X.A (f (.int i t) (.int j u)) Q E s) :
    OpR X f (rI C fun i j => .int (g i j)) := by
  intro pins s σ H x y v u Q I rx ry h
  obtain ⟨i, j, rfl, rfl, hc, q⟩ := h
  obtain ⟨t, rfl⟩ := rx
  obtain ⟨t', rfl⟩ := ry
  exact rule i j t t' s _ _ hc ⟨.int (g i j), H, I.tok _, ⟨_, rfl⟩, q⟩
theorem opI0 {f : Value → Value → Sem Value} {g : Int → Int → Int}
    (rule : ∀ (i j : Int) (t u : Tok) (s : Shared) (Q : Value → Shared → Prop) (E : Value → Shared → Prop), Q (.int (g i j) s.toks) { s with toks := s.toks + 1 } → wpAny (model X.prog X.w) X.A (f (.int i t) (.int j u)) Q E s) :
    OpR X f (rI0 fun i j => .int (g i j)) := by
  intro pins s σ H x y v u Q I rx ry h
  obtain ⟨i, j, rfl, rfl, q⟩ := h
  obtain ⟨t, rfl⟩ := rx
  obtain ⟨t', rfl⟩ := ry
  exact rule i j t t' s _ _ ⟨.int (g i j), H, I.tok _, ⟨_, rfl⟩, q⟩
theorem opB0 {f : Value → Value → Sem Value} {g : Int → Int → Bool}
    (rule : ∀ (i j : Int) (t u : Tok) (s : Shared) (Q : Value → Shared → Prop) (E : Value → Shared → Prop), Q (.bool (g i j)) s → wpAny (model X.prog X.w) X.A (f (.int i t) (.int j u)) Q E s) :
    OpR X f (rI0 fun i j => .bl (g i j)) := by
  intro pins s σ H x y v u Q I rx ry h
  obtain ⟨i, j, rfl, rfl, q⟩ := h
  obtain ⟨t, rfl⟩ := rx
  obtain ⟨t', rfl⟩ := ry
  exact rule i j t t' s _ _ ⟨.bl (g i j), H, I, rfl, q⟩
def CDiv (i j : Int) : Prop := 0 < j ∧ j < 1073741824
def CPow (i j : Int) : Prop := 0 ≤ j ∧ j ≤ 1000000 ∧ i.natAbs < 2 ^ 64
def CMul (i j : Int) : Prop := (-(2 ^ 64) < i ∧ i < 2 ^ 64) ∨ (-(2 ^ 64) < j ∧ j < 2 ^ 64)
theorem CMul.ok {i j : Int} (h : CMul i j) : IntMulOk i j := by
  rcases h with ⟨h1, h2⟩ | ⟨h1, h2⟩
  · exact .of_left (intBits_le_64 h1 h2)
  · exact .of_right (intBits_le_64 h1 h2)
theorem op_add : OpR X (binaryOp .Add) (rI0 fun i j => .int (i + j)) := opI0 fun _ _ _ _ _ _ _ q => add_int q
theorem op_sub : OpR X (binaryOp .Sub) (rI0 fun i j => .int (i - j)) := opI0 fun _ _ _ _ _ _ _ q => sub_int q
theorem op_mul : OpR X (binaryOp .Mult) (rI CMul fun i j => .int (i * j)) := opI fun _ _ _ _ _ _ _ hc q => mul_int q hc.ok
theorem op_fdiv : OpR X (binaryOp .FloorDiv) (rI CDiv fun i j => .int (i / j)) := opI fun i j _ _ _ _ _ hc q => by
  have h1 : (0 : Int) < j := hc.1
  have h2 : j < 1073741824 := hc.2
  exact floordiv_int (by omega) (by rw [Int.fdiv_eq_ediv_of_nonneg i (by omega)]; exact q) (.inl (PyProof.noPylong_small (by omega)))
theorem op_mod : OpR X (binaryOp .Mod) (rI (fun _ j => 0 < j) fun i j => .int (i % j)) := opI fun i j _ _ _ _ _ hc q => by
  have h1 : (0 : Int) < j := hc
  exact mod_int' (by omega) (by rw [Int.fmod_eq_emod_of_nonneg i (by omega)]; exact q)
theorem op_pow : OpR X (binaryOp .Pow) (rI CPow fun i j => .int (i ^ j.toNat)) := opI fun _ _ _ _ _ _ _ hc q => pow_int_small hc.1 hc.2.1 hc.2.2 q
theorem unI {f : Value → Sem Value} {g : Int → Int}
    (rule : ∀ (i : Int) (t : Tok) (s : Shared) (Q : Value → Shared → Prop) (E : Value → Shared → Prop), Q (.int (g i) s.toks) { s with toks := s.toks + 1 } → wpAny (model X.prog X.w) X.A (f (.int i t)) Q E s) :
    UnR X f (rU fun i => .int (g i)) := by
  intro pins s σ H x v Q I rx h
  obtain ⟨i, rfl, q⟩ := h
  obtain ⟨t, rfl⟩ := rx
  exact rule i t s _ _ ⟨.int (g i), H, I.tok _, ⟨_, rfl⟩, q⟩
theorem un_neg : UnR X (unaryOp .USub) (rU fun i => .int (-i)) := unI fun _ _ _ _ _ q => neg_int q
end
def scal : V → V → Bool
  | .non, .non => true | .non, .int _ => true | .int _, .non => true | .non, .bl _ => true | .bl _, .non => true | .non, .str _ => true | .str _, .non => true
  | .int _, .int _ => true | .bl _, .bl _ => true | .str _, .str _ => true | .byt _, .byt _ => true
  | .int _, .str _ => true | .str _, .int _ => true | .bl _, .str _ => true | .str _, .bl _ => true
  | _, _ => false
def rEq : R2 := fun x y H Q => scal x y = true ∧ Q (.bl (decide (x = y))) H
def rNe : R2 := fun x y H Q => scal x y = true ∧ Q (.bl (!decide (x = y))) H
theorem dec_int {i j : Int} : decide (V.int i = V.int j) = (i == j) := by
  rw [Bool.eq_iff_iff]
  simp
theorem dec_bl {i j : Bool} : decide (V.bl i = V.bl j) = (i == j) := by
  rw [Bool.eq_iff_iff]
  simp
theorem dec_str {i j : Str} : decide (V.str i = V.str j) = (i == j) := by
  rw [Bool.eq_iff_iff]
  simp
theorem dec_byt {i j : Array UInt8} : decide (V.byt i = V.byt j) = (i.toList == j.toList) := by
  rw [Bool.eq_iff_iff]
  cases i
  cases j
  simp
section
variable {X : Cx} {a b c : Expr} {ta tb tc : TE} {pos : Pos}
theorem fin_bl {pins : List (Addr × Obj)} {σ : St} {H : Hp} {s : Shared} {Q : VK} {k k' : Bool} (I : Inv X pins σ H s) (q : Q (.bl k) H) (e : k = k') : EP X pins σ Q (.bool k') s := by
  subst e
  exact ⟨.bl k, H, I, rfl, q⟩
theorem op_eq : OpR X (compareOp .Eq) rEq := by
  intro pins s σ H x y v u Q I rx ry h
  obtain ⟨hs, q⟩ := h
  cases x with
  | non =>
    cases rx
    cases y with
    | non => cases ry; exact PySem.EqNone.eq_none_none (fin_bl I q (by simp))
    | bl j => cases ry; exact PySem.EqNone.eq_none_bool (fin_bl I q (by simp))
    | int j => obtain ⟨t', rfl⟩ := ry; exact PySem.EqNone.eq_none_int (fin_bl I q (by simp))
    | str j => obtain ⟨t', rfl⟩ := ry; exact PySem.EqNone.eq_none_str (fin_bl I q (by simp))
    | _ => exact absurd (show false = true from hs) Bool.false_ne_true
  | bl i =>
    cases rx
    cases y with
    | non => cases ry; exact PySem.EqNone.eq_bool_none (fin_bl I q (by simp))
    | bl j => cases ry; exact eq_bool (fin_bl I q dec_bl)
    | str j => obtain ⟨t', rfl⟩ := ry; exact PySem.EqMixed.eq_bool_str (fin_bl I q (by simp))
    | _ => exact absurd (show false = true from hs) Bool.false_ne_true
  | int i =>
    obtain ⟨t, rfl⟩ := rx
    cases y with
    | non => cases ry; exact PySem.EqNone.eq_int_none (fin_bl I q (by simp))
    | int j => obtain ⟨t', rfl⟩ := ry; exact eq_int (fin_bl I q dec_int)
    | str j => obtain ⟨t', rfl⟩ := ry; exact PySem.EqMixed.eq_int_str (fin_bl I q (by simp))
    | _ => exact absurd (show false = true from hs) Bool.false_ne_true
  | str i =>
    obtain ⟨t, rfl⟩ := rx
    cases y with
    | non => cases ry; exact PySem.EqNone.eq_str_none (fin_bl I q (by simp))
    | bl j => cases ry; exact PySem.EqMixed.eq_str_bool (fin_bl I q (by simp))
    | int j => obtain ⟨t', rfl⟩ := ry; exact PySem.EqMixed.eq_str_int (fin_bl I q (by simp))
    | str j => obtain ⟨t', rfl⟩ := ry; exact eq_str (fin_bl I q dec_str)
    | _ => exact absurd (show false = true from hs) Bool.false_ne_true
  | byt i =>
    obtain ⟨t, rfl⟩ := rx
    cases y with
    | byt j => obtain ⟨t', rfl⟩ := ry; exact PySem.W.eq_bytes (fin_bl I q dec_byt)
    | _ => exact absurd (show false = true from hs) Bool.false_ne_true
  | _ => cases y <;> exact absurd (show false = true from hs) Bool.false_ne_true
theorem op_ne : OpR X (compareOp .NotEq) rNe := by
  intro pins s σ H x y v u Q I rx ry h
  obtain ⟨hs, q⟩ := h
  cases x with
  | non =>
    cases rx
    cases y with
    | non => cases ry; exact PySem.EqNone.ne_none_none (fin_bl I q (by simp))
    | bl j => cases ry; exact PySem.EqNone.ne_none_bool (fin_bl I q (by simp))
    | int j => obtain ⟨t', rfl⟩ := ry; exact PySem.EqNone.ne_none_int (fin_bl I q (by simp))
    | str j => obtain ⟨t', rfl⟩ := ry; exact PySem.EqNone.ne_none_str (fin_bl I q (by simp))
    | _ => exact absurd (show false = true from hs) Bool.false_ne_true
  | bl i =>
    cases rx
    cases y with
    | non => cases ry; exact PySem.EqNone.ne_bool_none (fin_bl I q (by simp))
    | bl j => cases ry; exact ne_bool (fin_bl I q (congrArg not dec_bl))
    | str j => obtain ⟨t', rfl⟩ := ry; exact PySem.EqMixed.ne_bool_str (fin_bl I q (by simp))
    | _ => exact absurd (show false = true from hs) Bool.false_ne_true
  | int i =>
    obtain ⟨t, rfl⟩ := rx
    cases y with
    | non => cases ry; exact PySem.EqNone.ne_int_none (fin_bl I q (by simp))
    | int j => obtain ⟨t', rfl⟩ := ry; exact ne_int (fin_bl I q (congrArg not dec_int))
    | str j => obtain ⟨t', rfl⟩ := ry; exact PySem.EqMixed.ne_int_str (fin_bl I q (by simp))
    | _ => exact absurd (show false = true from hs) Bool.false_ne_true
  | str i =>
    obtain ⟨t, rfl⟩ := rx
    cases y with
    | non => cases ry; exact PySem.EqNone.ne_str_none (fin_bl I q (by simp))
    | bl j => cases ry; exact PySem.EqMixed.ne_str_bool (fin_bl I q (by simp))
    | int j => obtain ⟨t', rfl⟩ := ry; exact PySem.EqMixed.ne_str_int (fin_bl I q (by simp))
    | str j => obtain ⟨t', rfl⟩ := ry; exact ne_str (fin_bl I q (congrArg not dec_str))
    | _ => exact absurd (show false = true from hs) Bool.false_ne_true
  | byt i =>
    obtain ⟨t, rfl⟩ := rx
    cases y with
    | byt j => obtain ⟨t', rfl⟩ := ry; exact PySem.W.ne_bytes (fin_bl I q (congrArg not dec_byt))
    | _ => exact absurd (show false = true from hs) Bool.false_ne_true
  | _ => cases y <;> exact absurd (show false = true from hs) Bool.false_ne_true
theorem op_lt : OpR X (compareOp .Lt) (rI0 fun i j => .bl (decide (i < j))) := opB0 fun _ _ _ _ _ _ _ q => lt_int q
theorem op_le : OpR X (compareOp .LtE) (rI0 fun i j => .bl (decide (i ≤ j))) := opB0 fun _ _ _ _ _ _ _ q => le_int q
theorem op_gt : OpR X (compareOp .Gt) (rI0 fun i j => .bl (decide (j < i))) := opB0 fun _ _ _ _ _ _ _ q => gt_int q
theorem op_ge : OpR X (compareOp .GtE) (rI0 fun i j => .bl (decide (j ≤ i))) := opB0 fun _ _ _ _ _ _ _ q => ge_int q
theorem op_isN : OpR X (compareOp .Is) (fun x y H Q => y = .non ∧ Q (.bl (decide (x = .non))) H) := by
  intro pins s σ H x y v u Q I rx ry h
  obtain ⟨rfl, q⟩ := h
  cases ry
  refine is_none_gen (fin_bl I q ?_)
  cases x <;> first
    | (cases rx; rfl)
    | (obtain ⟨t, rfl⟩ := rx; rfl)
theorem op_notN : OpR X (compareOp .IsNot) (fun x y H Q => y = .non ∧ Q (.bl (!decide (x = .non))) H) := by
  intro pins s σ H x y v u Q I rx ry h
  obtain ⟨rfl, q⟩ := h
  cases ry
  refine isnot_none_gen (fin_bl I q ?_)
  cases x <;> first
    | (cases rx; rfl)
    | (obtain ⟨t, rfl⟩ := rx; rfl)
theorem OpR.or {f : Value → Value → Sem Value} {r r' : R2} (h : OpR X f r) (h' : OpR X f r') : OpR X f (fun x y H Q => r x y H Q ∨ r' x y H Q) := by
  intro pins s σ H x y v u Q I rx ry q
  rcases q with q | q
  · exact h pins s σ H x y v u Q I rx ry q
  · exact h' pins s σ H x y v u Q I rx ry q
theorem nomark (b : Expr) {op : CmpOp} (h : op ≠ .In := by decide) (h2 : op ≠ .NotIn := by decide) : behindInMarks op b = false := by
  have e1 : (op == CmpOp.In) = false := by cases op <;> first | rfl | exact absurd rfl h
  have e2 : (op == CmpOp.NotIn) = false := by cases op <;> first | rfl | exact absurd rfl h2
  cases b <;> simp [behindInMarks, e1, e2]
theorem pe_cmpR {op : CmpOp} {r : R2} (ho : OpR X (compareOp op) r) (ha : PE X a ta) (hb : PE X b tb) (hm : behindInMarks op b = false) : PE X (.Compare a [op] [b] pos) (tOp r ta tb) := by
  intro pins s σ H Q I h
  exact wpAny_Compare1 (binT ha hb I h fun v u s2 x y H2 I2 rx ry q => ho pins s2 σ H2 x y v u Q I2 rx ry q) hm
def tTest (t : TE) : TT := fun σ H Q => t σ H fun x H' => ∃ k, x = .bl k ∧ Q k H'
theorem pt_cmpR {op : CmpOp} {r : R2} (ho : OpR X (compareOp op) r) (ha : PE X a ta) (hb : PE X b tb) (hm : behindInMarks op b = false) : PT X (.Compare a [op] [b] pos) (tTest (tOp r ta tb)) := by
  intro pins s σ H Q I h
  refine wpAny_isTrue_Compare1 (thn (ha pins s σ H _ I h) fun v s1 ⟨x, H1, I1, r1, q1⟩ => thn (hb pins s1 σ H1 _ I1 q1) fun u s2 ⟨y, H2, I2, r2, q2⟩ =>
    thn (ho pins s2 σ H2 x y v u _ I2 r1 r2 q2) fun c s3 ⟨z, H3, I3, r3, k, e, q3⟩ => ?_) hm
  subst e
  cases r3
  exact wpAny_truthy_bool ⟨H3, I3, q3⟩
def tChain (r r' : R2) (ta tb tc : TE) : TE := fun σ H Q => ta σ H fun x H1 => tb σ H1 fun y H2 => r x y H2 fun z H3 => ∃ k, z = .bl k ∧
  (if k = true then tc σ H3 fun w' H4 => r' y w' H4 Q else Q (.bl false) H3)
theorem pe_chain {op op' : CmpOp} {r r' : R2} (ho : OpR X (compareOp op) r) (ho' : OpR X (compareOp op') r') (ha : PE X a ta) (hb : PE X b tb) (hc : PE X c tc)
    (hm : lastMarks [op, op'] [b, c] = false := by with_unfolding_all rfl) : PE X (.Compare a [op, op'] [b, c] pos) (tChain r r' ta tb tc) := by
  intro pins s σ H Q I h
  refine Compare_chain (thn (ha pins s σ H _ I h) fun v s1 ⟨x, H1, I1, r1, q1⟩ => chain_link (thn (hb pins s1 σ H1 _ I1 q1) fun u s2 ⟨y, H2, I2, r2, q2⟩ =>
    thn (ho pins s2 σ H2 x y v u _ I2 r1 r2 q2) fun d s3 ⟨z, H3, I3, r3, k, e, q3⟩ => ?_)) hm
  subst e
  cases r3
  refine wpAny_truthy_bool ?_
  cases k with
  | false => exact ite_ff ⟨.bl false, H3, I3, rfl, q3⟩
  | true => exact ite_tt (chain_last (thn (hc pins s3 σ H3 _ I3 q3) fun w' s4 ⟨z', H4, I4, r4, q4⟩ => ho' pins s4 σ H4 y z' u w' Q I4 r2 r4 q4))
theorem pt_chain {op op' : CmpOp} {r r' : R2} (ho : OpR X (compareOp op) r) (ho' : OpR X (compareOp op') r') (ha : PE X a ta) (hb : PE X b tb) (hc : PE X c tc)
    (hm : lastMarks [op, op'] [b, c] = false := by with_unfolding_all rfl) : PT X (.Compare a [op, op'] [b, c] pos) (tTest (tChain r r' ta tb tc)) := by
  intro pins s σ H Q I h
  refine isTrue_chain (thn (ha pins s σ H _ I h) fun v s1 ⟨x, H1, I1, r1, q1⟩ => test_link (thn (hb pins s1 σ H1 _ I1 q1) fun u s2 ⟨y, H2, I2, r2, q2⟩ =>
    thn (ho pins s2 σ H2 x y v u _ I2 r1 r2 q2) fun d s3 ⟨z, H3, I3, r3, k, e, q3⟩ => ?_)) hm
  subst e
  cases r3
  refine wpAny_truthy_bool ?_
  cases k with
  | false =>
    obtain ⟨k', e', q'⟩ := q3
    cases e'
    exact ite_ff ⟨H3, I3, q'⟩
  | true =>
    refine ite_tt (test_last (thn (hc pins s3 σ H3 _ I3 q3) fun w' s4 ⟨z', H4, I4, r4, q4⟩ => thn (ho' pins s4 σ H4 y z' u w' _ I4 r2 r4 q4) fun d' s5 ⟨z2, H5, I5, r5, k2, e2, q5⟩ => ?_))
    subst e2
    cases r5
    exact wpAny_truthy_bool ⟨H5, I5, q5⟩
def TruV (K : PySem.W.Frag) (x : V) (H : Hp) (k : Bool) : Prop :=
  match x with
  | .non => k = false
  | .bl b => k = b
  | .int i => k = (i != 0)
  | .str y => y.length ≤ sizeLine ∧ k = ((y.length : Int) != 0)
  | .byt y => y.size ≤ sizeLine ∧ k = ((y.size : Int) != 0)
  | .ref p => (∃ xs, SqL K H p xs ∧ k = !xs.isEmpty) ∨ (∃ xs, SqT K H p xs ∧ k = !xs.isEmpty) ∨ ∃ kvs, H p = some (.dK kvs) ∧ k = !kvs.isEmpty
  | _ => False
theorem isEmpty_kv {κ : Type} {kvs : List (κ × V)} {vs : List (κ × Value)} (r : KV kvs vs) : (!vs.isEmpty) = !kvs.isEmpty := by
  cases r <;> rfl
theorem isEmpty_of {xs : List V} {its : List Value} (r : Vals xs its) : (!its.toArray.isEmpty) = !xs.isEmpty := by
  cases r <;> simp
theorem line63 : (sizeLine : Nat) < 2 ^ 63 := by rw [sizeLine_eq]; decide
theorem tru_ok : TruR X (fun x H Q => ∃ k, TruV X.K x H k ∧ Q k H) := by
  intro pins s σ H x v Q I rx h
  obtain ⟨k, e, q⟩ := h
  have hl := line63
  have hs : sizeLine = 16777216 := sizeLine_eq
  cases x with
  | non =>
    cases rx
    have e' : k = false := e
    subst e'
    exact truthy_none ⟨H, I, q⟩
  | bl b =>
    cases rx
    have e' : k = b := e
    subst e'
    exact wpAny_truthy_bool ⟨H, I, q⟩
  | int i =>
    obtain ⟨t, rfl⟩ := rx
    have e' : k = (i != 0) := e
    subst e'
    exact PySem.P.truthy_int ⟨H, I, q⟩
  | str y =>
    obtain ⟨t, rfl⟩ := rx
    obtain ⟨hy, e'⟩ : y.length ≤ sizeLine ∧ k = ((y.length : Int) != 0) := e
    subst e'
    exact PySem.P.truthy_str (by omega) ⟨H, I.tok _, q⟩
  | byt y =>
    obtain ⟨t, rfl⟩ := rx
    obtain ⟨hy, e'⟩ : y.size ≤ sizeLine ∧ k = ((y.size : Int) != 0) := e
    subst e'
    exact PySem.W.truthy_bytes (by omega) ⟨H, I.tok _, q⟩
  | ref p =>
    cases rx
    have e' : (∃ xs, SqL X.K H p xs ∧ k = !xs.isEmpty) ∨ (∃ xs, SqT X.K H p xs ∧ k = !xs.isEmpty) ∨ ∃ kvs, H p = some (.dK kvs) ∧ k = !kvs.isEmpty := e
    rcases e' with ⟨xs, hx, e'⟩ | ⟨xs, hx, e'⟩ | ⟨kvs, hx, e'⟩
    · subst e'
      obtain ⟨its, r, pl, hz⟩ := I.list hx
      have hlen := r.length
      exact wpAny_truthy_list pl.isList (by simp only [List.size_toArray]; omega) ⟨H, I.tok _, by rw [isEmpty_of r]; exact q⟩
    · subst e'
      obtain ⟨its, r, pl, hz⟩ := I.tuple hx
      have hlen := r.length
      exact truthy_tuple pl (by simp only [List.size_toArray]; omega) ⟨H, I.tok _, by rw [isEmpty_of r]; exact q⟩
    · subst e'
      obtain ⟨hz, hS, vs, r, m⟩ : kvs.length ≤ sizeLine ∧ (p == sysModules) = false ∧ ∃ vs, KV kvs vs ∧ s.heap.DictOf (mixKind X.prog X.w) p vs := I.hok p _ hx
      have hlen : kvs.length = vs.length := Paired.length r
      exact wpAny_truthy_dict hS m (by omega) ⟨H, I.tok _, by rw [isEmpty_kv r]; exact q⟩
  | _ => exact (show False from e).elim
theorem pt_truth (ha : PE X a ta) (he : ∀ whole, isTrue a X.env whole = (do let v ← whole; standAt a.pos; holding [v] (truthy v))) :
    PT X a (fun σ H Q => ta σ H fun x H' => ∃ k, TruV X.K x H' k ∧ Q k H') := by
  intro pins s σ H Q I h
  exact isTrue_plain (thn (ha pins s σ H _ I h) fun v s1 ⟨x, H1, I1, r1, q1⟩ => tru_ok pins s1 σ H1 x v Q I1 r1 q1) (he _)
theorem op_add_str : OpR X (binaryOp .Add) (fun x y H Q => ∃ i j, x = .str i ∧ y = .str j ∧ i.length + j.length ≤ sizeLine ∧ Q (.str (i ++ j)) H) := by
  intro pins s σ H x y v u Q I rx ry h
  obtain ⟨i, j, rfl, rfl, hz, q⟩ := h
  obtain ⟨t, rfl⟩ := rx
  obtain ⟨t', rfl⟩ := ry
  exact add_str (fun t' tk => ⟨.str (i ++ j), H, I.tok _, ⟨_, rfl⟩, q⟩) hz
theorem vals1 {x : V} {us : List Value} (r : Vals [x] us) : ∃ u, us = [u] ∧ RelV x u := by
  cases r with
  | cons r1 r2 => cases r2; exact ⟨_, rfl, r1⟩
theorem vals2 {x y : V} {us : List Value} (r : Vals [x, y] us) : ∃ u w', us = [u, w'] ∧ RelV x u ∧ RelV y w' := by
  cases r with
  | cons r1 r2 =>
    cases r2 with
    | cons r3 r4 => cases r4; exact ⟨_, _, rfl, r1, r3⟩
theorem call_int1 : CallR X (.type "int") (fun xs H Q => (∃ i, xs = [.int i] ∧ Q (.int i) H) ∨ ∃ k, xs = [.bl k] ∧ Q (.int (if k then 1 else 0)) H) := by
  intro pins s σ H xs us Q I r h
  rcases h with ⟨i, rfl, q⟩ | ⟨k, rfl, q⟩
  · obtain ⟨u, rfl, t, rfl⟩ := vals1 r
    exact call_int_int ⟨.int i, H, I, ⟨_, rfl⟩, q⟩
  · obtain ⟨u, rfl, r1⟩ := vals1 r
    cases r1
    exact call_int_bool ⟨.int (if k then 1 else 0), H, I.tok _, ⟨_, rfl⟩, q⟩
end
end L2
namespace L2
open PySem PySem.Spec PyProof.Rows
structure ObjM (h : Heap) (x dx C : Addr) (mA : Str → Option Value) : Prop where
  obj : h.get? x = some (PySem.W.instObj C dx)
  ns : h.Ns1 dx mA
  ne : dx ≠ x
theorem lookIn_ns {h : Heap} {dx : Addr} {mA : Str → Option Value} (n : h.Ns1 dx mA) : ∃ od, h.get? dx = some od ∧ ∀ name, PySem.W.lookIn name od = some (mA name) := by
  obtain ⟨o, es, ep, ho, hd, hk, _, hm⟩ := n
  refine ⟨o, ho, fun name => ?_⟩
  have e := hm name
  unfold nsFind findBy at e
  rw [← Array.find?_toList] at e
  unfold PySem.W.lookIn
  rw [hd]
  dsimp only
  split
  · rename_i y q
    rw [q] at e
    exact congrArg some e
  · rename_i q
    rw [q] at e
    have a : es.toList.any (·.refKey) = false := by
      rw [List.any_eq_false]
      intro y hy
      obtain ⟨z, t, hkey⟩ := hk y (Array.mem_toList_iff.mp hy)
      simp [DictEntry.refKey, hkey]
    have a' : ¬ es.toList.any (·.refKey) = true := by rw [a]; exact Bool.false_ne_true
    rw [if_neg a']
    exact congrArg some e
theorem ObjM.look {h : Heap} {x dx C : Addr} {mA : Str → Option Value} (I : ObjM h x dx C mA) : ∃ od, PySem.W.InstAt h x (PySem.W.instObj C dx) C (some od) ∧ ∀ name, PySem.W.lookIn name od = some (mA name) :=
  let ⟨od, ho, hl⟩ := lookIn_ns I.ns
  ⟨od, ⟨I.obj, rfl, rfl, ho⟩, hl⟩
section
variable {prog : Program} {w : World} {A : Around} {E : Value → Shared → Prop} {s : Shared} {K : PySem.W.Frag} {x dx C f : Addr} {mA : Str → Option Value} {name : Str} {v : Value}
end
theorem RelO.some_of {v : V} {o : Option Value} (r : RelO (some v) o) : ∃ u, o = some u ∧ RelV v u := by
  cases o with
  | none => exact (show False from r).elim
  | some u => exact ⟨u, rfl, r⟩
theorem RelO.none_of {o : Option Value} (r : RelO none o) : o = none := by
  cases o with
  | none => rfl
  | some u => exact (show False from r).elim
section
variable {P : Program} {w : World} {H H' : Hp} {h h' : Heap} {a C dx : Addr} {fs fs' : List (Str × V)}
theorem ins_get (hok : HOk P w H h) (e : H a = some (.ins C dx fs)) : ∃ mA, ObjM h a dx C mA ∧ (∀ f, RelO (fs.lookup f) (mA f)) ∧ PySem.Within mA (fs.map (·.1)) ∧ fs.length ≤ 1000 ∧ H dx = some (.own a) := by
  obtain ⟨d, z, ne, ob, mA, n, r, q⟩ := (show ObjOk P w H h a (.ins C dx fs) from hok a _ e)
  exact ⟨mA, ⟨ob, n, ne⟩, r, q, z, d⟩
end
structure Cls (K : PySem.W.Frag) (C : Addr) : Prop where
  pg : PySem.W.plainGet K C Str.empty = true
  hd : PySem.W.hasDictIn K C = true
  po : PySem.W.plainOver K C = true
  sa : PySem.W.findIn K (.ref C) "__setattr__" = some (some (.builtin "object.__setattr__"))
theorem Cls.get {K : PySem.W.Frag} {C : Addr} (c : Cls K C) (f : Str) : PySem.W.plainGet K C f = true := c.pg
section
variable {X : Cx} {pins : List (Addr × Obj)} {σ : St} {H : Hp} {s : Shared} {a C dx : Addr} {fs : List (Str × V)} {f : Str} {v : V} {A : Around} {E : Value → Shared → Prop}
theorem attr_of {prog : Program} {w : World} {env : Env} {e : Expr} {f : Str} {pos : Pos} {s : Shared} {Q : Value → Shared → Prop} (hb : attributeBase e f env (eval e env) = eval e env)
    (h : wpAny (model prog w) A (eval e env) (fun o s₁ => wpAny (model prog w) A (getAttr o f true) Q E s₁) E s) : wpAny (model prog w) A (eval (.Attribute e f pos) env) Q E s :=
  Attribute_any_ h (by rw [arm_eval_Attribute, hb])
end
section
variable {X : Cx} {o e value : Expr} {f : Str} {pos pos' tpos : Pos} {ta tv : TE}
end
section
variable {X : Cx} {pins : List (Addr × Obj)} {σ : St} {H : Hp} {s : Shared} {A : Around} {E : Value → Shared → Prop} {Q : Value → Shared → Prop} {c : Value} {b : Bool}
inductive TyOf (K : PySem.W.Frag) (H : Hp) : V → Value → Prop where
  | non : TyOf K H .non (.type "NoneType")
  | bl (x : Bool) : TyOf K H (.bl x) (.type "bool")
  | int (i : Int) : TyOf K H (.int i) (.type "int")
  | str (x : Str) : TyOf K H (.str x) (.type "str")
  | flt (x : UInt64) : TyOf K H (.flt x) (.type "float")
  | lst {a : Addr} {xs : List V} (e : H a = some (.lst xs)) : TyOf K H (.ref a) (.type "list")
  | frz {a : Addr} {o : Obj} {xs : List V} (e : H a = some (.frz o (.lst xs))) : TyOf K H (.ref a) (.type "list")
  | tup {a : Addr} {xs : List V} (e : H a = some (.tup xs)) : TyOf K H (.ref a) (.type "tuple")
  | dK {a : Addr} {kvs : List (Key × V)} (e : H a = some (.dK kvs)) : TyOf K H (.ref a) (.type "dict")
  | dT {a : Addr} {kvs : List (List Key × V)} (e : H a = some (.dT kvs)) : TyOf K H (.ref a) (.type "dict")
  | ins {a C dx : Addr} {fs : List (Str × V)} (e : H a = some (.ins C dx fs)) (cl : Cls K C) (ha : PySem.W.findIn K (.ref C) "__class__" = some (some (.builtin "object.__class__")))
      (hn : PySem.W.specialIn K (.builtin "object.__class__") "__get__" = some (some (.builtin "getset_descriptor.__get__"))) (htk : PySem.W.takesIn K (.builtin "object.__class__") = some true)
      (hm : PySem.W.mroIn K C (.type "object") = some true) : TyOf K H (.ref a) (.ref C)
theorem isinst_ok {x : V} {u t : Value} (I : Inv X pins σ H s) (rx : RelV x u) (ty : TyOf X.K H x t) (e : PySem.W.kitOne X.K t c = some b) (h : ∀ tk, Q (.bool b) { s with toks := tk }) :
    wpAny (model X.prog X.w) A (call (.builtin "isinstance") [u, c]) Q E s := by
  cases ty with
  | non => cases (show u = Value.none from rx); exact PySem.W.kia_one PySem.W.kitx_none I.kIn True.intro e (fun z => nomatch z) h
  | bl y => cases (show u = Value.bool y from rx); exact PySem.W.kia_one PySem.W.kitx_bool I.kIn True.intro e (fun z => nomatch z) h
  | int i => obtain ⟨t, q⟩ := (show ∃ t, u = Value.int i t from rx); cases q; exact PySem.W.kia_one PySem.W.kitx_int I.kIn True.intro e (fun z => nomatch z) h
  | str y => obtain ⟨t, q⟩ := (show ∃ t, u = Value.str y t from rx); cases q; exact PySem.W.kia_one PySem.W.kitx_str I.kIn True.intro e (fun z => nomatch z) h
  | flt y => obtain ⟨t, q⟩ := (show ∃ t, u = Value.float y t from rx); cases q; exact PySem.W.kia_one PySem.W.kitx_float I.kIn True.intro e (fun z => nomatch z) h
  | @lst a xs ea =>
    cases (show u = Value.ref a from rx)
    obtain ⟨_, _, n, _, h1⟩ := (show ObjOk X.prog X.w H s.heap a (.lst xs) from I.hok a _ ea)
    exact PySem.W.kia_one PySem.W.kitx_list I.kIn ⟨_, h1, rfl⟩ e (fun z => nomatch z) h
  | @frz a ob xs ea =>
    cases (show u = Value.ref a from rx)
    obtain ⟨_, _, _, n, _, h1⟩ := (show ObjOk X.prog X.w H s.heap a (.frz ob (.lst xs)) from I.hok a _ ea)
    exact PySem.W.kia_one PySem.W.kitx_list I.kIn ⟨_, h1, rfl⟩ e (fun z => nomatch z) h
  | @tup a xs ea =>
    cases (show u = Value.ref a from rx)
    obtain ⟨_, _, _, p⟩ := (show ObjOk X.prog X.w H s.heap a (.tup xs) from I.hok a _ ea)
    obtain ⟨o, h1, h2, _⟩ := p
    exact PySem.W.kia_one PySem.W.kitx_tuple I.kIn ⟨o, h1, h2⟩ e (fun z => nomatch z) h
  | @dK a kvs ea =>
    cases (show u = Value.ref a from rx)
    obtain ⟨_, _, vs, _, p⟩ := (show ObjOk X.prog X.w H s.heap a (.dK kvs) from I.hok a _ ea)
    obtain ⟨o, es, ep, h1, h2, _⟩ := p
    exact PySem.W.kia_one PySem.W.kitx_dict I.kIn ⟨o, h1, h2.1⟩ e (fun z => nomatch z) h
  | @dT a kvs ea =>
    cases (show u = Value.ref a from rx)
    obtain ⟨_, _, xs, _, o, es, ep, h1, h2, _⟩ := (show ObjOk X.prog X.w H s.heap a (.dT kvs) from I.hok a _ ea)
    exact PySem.W.kia_one PySem.W.kitx_dict I.kIn ⟨o, h1, h2.1⟩ e (fun z => nomatch z) h
  | @ins a C dx fs ea cl ha hn htk hm =>
    cases (show u = Value.ref a from rx)
    obtain ⟨mA, O, _⟩ := ins_get I.hok ea
    obtain ⟨od, J, _⟩ := O.look
    exact PySem.W.kia_one (PySem.W.kitx_own (cl.get _) cl.hd ha hn htk hm) I.kIn J e (fun z => nomatch z) h
end
end L2
namespace L2
open PySem PySem.Spec PyProof.Rows
structure Room (k : Nat) (A : Around) : Prop where
  hd : A.handled = none
  dp : A.depth + 3 * k + 5 < recursionLimit
  un : A.units + 16 * k + 200 < cLine
theorem Room.mono {j k : Nat} {A : Around} (r : Room k A) (h : j ≤ k) : Room j A := ⟨r.hd, by have := r.dp; omega, by have := r.un; omega⟩
theorem Room.deeper {k : Nat} {A : Around} (r : Room (k + 1) A) (env : Env) : Room k (A.deeper env) :=
  ⟨r.hd, by have := r.dp; show A.depth + 1 + 3 * k + 5 < _; omega, by have := r.un; show A.units + 3 + 16 * k + 200 < _; omega⟩
theorem Room.in1 {k : Nat} {A : Around} (r : Room (k + 1) A) : Room k A.in1 :=
  ⟨r.hd, by have := r.dp; show A.depth + 3 * k + 5 < _; omega, by have := r.un; show A.units + 1 + 16 * k + 200 < _; omega⟩
theorem make_depth {A : Around} {C : Addr} {us : List Value} {kw : List (Str × Value)} : (A.under (.builtin "type.__call__" ⟨.ref C :: us, kw⟩)).depth = A.depth + 1 := by
  first | rfl | simp [Around.under, Code.weight, Code.isCreation, Code.isGuard, Code.isCaller, Code.frames, Code.isFrame, guardIds]
theorem make_units {A : Around} {C : Addr} {us : List Value} {kw : List (Str × Value)} : (A.under (.builtin "type.__call__" ⟨.ref C :: us, kw⟩)).units = A.units + 1 := by
  first | rfl | simp [Around.under, Code.cUnits, Code.frames, Code.isFrame]
theorem Room.make {k : Nat} {A : Around} (r : Room (k + 1) A) (C : Addr) (us : List Value) (kw : List (Str × Value)) : Room k (A.under (.builtin "type.__call__" ⟨.ref C :: us, kw⟩)) :=
  ⟨r.hd, by have := r.dp; rw [make_depth]; omega, by have := r.un; rw [make_units]; omega⟩
theorem Room.depth {k : Nat} {A : Around} (r : Room k A) : A.depth < recursionLimit := by have := r.dp; omega
theorem Room.units {k : Nat} {A : Around} (r : Room k A) : A.units + 64 < cLine := by have := r.un; omega
def tNil : TA := fun _ H Q => Q [] H
def tCons (ta : TE) (tr : TA) : TA := fun σ H Q => ta σ H fun x H1 => tr σ H1 fun xs H2 => Q (x :: xs) H2
section
variable {X : Cx} {e : Expr} {es : List Expr} {te : TE} {t : TA} {pos : Pos}
theorem pa_nil : PA X [] tNil := fun _ _ _ _ H Q I h => Calls.spliced_nil ⟨[], H, I, .nil, h⟩
theorem pa_cons (ha : PE X e te) (hr : PA X es t) (hs : starEach (e :: es) X.env = (false, eval e X.env) :: starEach es X.env := by rfl) : PA X (e :: es) (tCons te t) := by
  intro pos pins s σ H Q I h
  rw [hs]
  show wpAny _ _ (spliced ((false, eval e X.env) :: backTo pos (starEach es X.env))) _ _ s
  refine Calls.spliced_cons (thn (ha pins s σ H _ I h) fun u s1 ⟨x, H1, I1, r1, q1⟩ => ?_)
  exact thn (hr pos pins s1 σ H1 _ I1 q1) fun us s2 ⟨xs, H2, I2, r2, q2⟩ => ⟨x :: xs, H2, I2, .cons r1 r2, q2⟩
def tTup (t : TA) : TE := fun σ H Q => t σ H fun xs H1 => xs.length ≤ sizeLine ∧ ∀ p, H1 p = none → Q (.ref p) (upd H1 p (.tup xs))
def tLst (t : TA) : TE := fun σ H Q => t σ H fun xs H1 => xs.length ≤ sizeLine ∧ ∀ p, H1 p = none → Q (.ref p) (upd H1 p (.lst xs))
theorem pe_tup {x1} (h : PA X es t) : PE X (.Tuple es x1 pos) (tTup t) := by
  intro pins s σ H Q I hq
  refine wpAny_Tuple_spliced (thn (h pos pins s σ H _ I hq) fun us s1 ⟨xs, H1, I1, r, z, q⟩ => ⟨by rw [← r.length]; exact z, ?_⟩)
  have hf : H1 s1.heap.objs.size = none := I1.hok.fresh (Nat.le_refl _)
  refine ⟨.ref s1.heap.objs.size, upd H1 s1.heap.objs.size (.tup xs), I1.laid (t' := s1.toks) (fun b u e => Heap.get?_push_of_some _ e) (Nat.le_refl _) ?_, rfl, q _ hf⟩
  exact ⟨z, us, r, ⟨_, Heap.get?_push_size _ rfl, rfl, _, rfl⟩⟩
theorem pe_lst (h : PA X es t) : PE X (.List es pos) (tLst t) := by
  intro pins s σ H Q I hq
  refine wpAny_List_spliced (thn (h pos pins s σ H _ I hq) fun us s1 ⟨xs, H1, I1, r, z, q⟩ => ⟨by rw [← r.length]; exact z, ?_⟩)
  have hf : H1 s1.heap.objs.size = none := I1.hok.fresh (Nat.le_refl _)
  refine ⟨.ref s1.heap.objs.size, upd H1 s1.heap.objs.size (.lst xs), I1.laid (t' := s1.toks) (fun b u e => Heap.get?_push_of_some _ e) (Nat.le_refl _) ?_, rfl, q _ hf⟩
  exact ⟨z, us, 0, r, Heap.get?_push_size _ rfl⟩
end
abbrev Sp := List V → Hp → VK → XK → Prop
abbrev CXT := List Env → Hp → Shared → XK → Value → Shared → Prop
structure Env0 (P : Program) (w : World) (K : PySem.W.Frag) (mg : Str → Option Value) (base : Heap) (A : Around) (outer : List Env) (s : Shared) (H : Hp) : Prop where
  frames : A.frames = some outer
  mod : Mod K mg base
  bs : ∀ b o, base.get? b = some o → s.heap.get? b = some o ∧ H b = none
  bsz : base.objs.size ≤ s.heap.objs.size
  funs : s.heap.FunFrames base outer
  frf : ∀ b ∈ frs outer, H b = none
  hok : HOk P w H s.heap
  bare : AllBare s.gens
def CE (outer : List Env) (P : Program) (w : World) (H : Hp) (s : Shared) (Q : VK) (u : Value) (s' : Shared) : Prop :=
  ∃ v H', s'.os = s.os ∧ AllBare s'.gens ∧ Un (frs outer) [] H H' s.heap s'.heap ∧ HOk P w H' s'.heap ∧ RelV v u ∧ Q v H'
def CR (CX : CXT) (outer : List Env) (P : Program) (w : World) (H : Hp) (s : Shared) (Q : VK) (E : XK) (r : Result) (s' : Shared) : Prop :=
  match r with
  | .ok (.ret u) => CE outer P w H s Q u s'
  | .ok _ => False
  | .error e => CX outer H s E e s'
structure FnOk (P : Program) (w : World) (K : PySem.W.Frag) (mg : Str → Option Value) (base : Heap) (CX : CXT) (k : Nat) (f : Addr) (fd : FuncData) (ps : List Str) (sp : Sp) : Prop where
  len : ∀ vs H Q E, sp vs H Q E → vs.length = ps.length
  run : ∀ (A : Around) (outer : List Env) (s : Shared) (H : Hp) (args : Args) (us : List Value) (vs : List V) (Q : VK) (E : XK), Room k A → Env0 P w K mg base A outer s H → BindsTo s fd args (ps.zip us) → Vals vs us → sp vs H Q E →
    codeAny (model P w) A (.call (.ref f) args) (CR CX outer P w H s Q E) s
theorem FnOk.mono {P : Program} {w : World} {K : PySem.W.Frag} {mg : Str → Option Value} {base : Heap} {CX : CXT} {j k : Nat} {f : Addr} {fd : FuncData} {ps : List Str} {sp : Sp} (F : FnOk P w K mg base CX j f fd ps sp) (h : j ≤ k) :
    FnOk P w K mg base CX k f fd ps sp := ⟨F.len, fun A outer s H args us vs Q E hr => F.run A outer s H args us vs Q E (hr.mono h)⟩
theorem FnOk.imp {P : Program} {w : World} {K : PySem.W.Frag} {mg : Str → Option Value} {base : Heap} {CX : CXT} {k : Nat} {f : Addr} {fd : FuncData} {ps : List Str} {sp sp' : Sp} (F : FnOk P w K mg base CX k f fd ps sp)
    (h : ∀ vs H Q E, sp' vs H Q E → sp vs H Q E) : FnOk P w K mg base CX k f fd ps sp' :=
  ⟨fun vs H Q E q => F.len vs H Q E (h _ _ _ _ q), fun A outer s H args us vs Q E hr he hb hv hs => F.run A outer s H args us vs Q E hr he hb hv (h _ _ _ _ hs)⟩
theorem Env0.make {P : Program} {w : World} {K : PySem.W.Frag} {mg : Str → Option Value} {base : Heap} {A : Around} {outer : List Env} {s : Shared} {H : Hp} (e : Env0 P w K mg base A outer s H) (C : Addr) (us : List Value) (kw : List (Str × Value)) :
    Env0 P w K mg base (A.under (.builtin "type.__call__" ⟨.ref C :: us, kw⟩)) outer s H := ⟨by first | exact e.frames | (simpa [Around.under, Code.envs, Code.isFrame, pushEnvs] using e.frames), e.mod, e.bs, e.bsz, e.funs, e.frf, e.hok, e.bare⟩
theorem Env0.in1 {P : Program} {w : World} {K : PySem.W.Frag} {mg : Str → Option Value} {base : Heap} {A : Around} {outer : List Env} {s : Shared} {H : Hp} (e : Env0 P w K mg base A outer s H) :
    Env0 P w K mg base A.in1 outer s H := ⟨e.frames, e.mod, e.bs, e.bsz, e.funs, e.frf, e.hok, e.bare⟩
section
variable {X : Cx} {pins : List (Addr × Obj)} {σ : St} {H : Hp} {s s' : Shared}
theorem Inv.env0 (I : Inv X pins σ H s) : Env0 X.prog X.w X.K X.mg X.base X.A X.stack s H :=
  ⟨I.ok.frames, I.ok.mod, I.bs, Nat.le_trans I.ok.bsz I.sz, I.stack, I.stkFree, I.hok, I.bare⟩
theorem Inv.after {Q : VK} {u : Value} (I : Inv X pins σ H s) (h : CE X.stack X.prog X.w H s Q u s') : EP X pins σ Q u s' := by
  obtain ⟨v, H', os, bare, un, hok, r, q⟩ := h
  obtain ⟨hh, g, d, t, os'⟩ := s'
  obtain rfl : os' = s.os := os
  exact ⟨v, H', I.call (h' := hh) (g' := g) (d' := d) (t' := t) (ch := []) un hok bare (fun b z => absurd z (by simp)), r, q⟩
end
def tCall (sp : Sp) (dvs : List V) (E : XK) (t : TA) : TE := fun σ H Q => t σ H fun vs H1 => sp (vs ++ dvs) H1 Q E
def Binds (K : PySem.W.Frag) (fd : FuncData) (ps : List Str) (ds : List Value) : Prop :=
  ∀ (s : Shared) (us : List Value), K.In s.heap → (us ++ ds).length = ps.length → BindsTo s fd ⟨us, []⟩ (ps.zip (us ++ ds))
theorem Binds.all {K : PySem.W.Frag} {fd : FuncData} {ps : List Str} (h : ∀ us : List Value, us.length = ps.length → bindArgs fd ⟨us, []⟩ = pure (ps.zip us)) : Binds K fd ps [] := fun s us _ hl => by
  rw [List.append_nil] at hl ⊢
  exact .of_eq (h us hl)
def Passes (CX : CXT) (X : Cx) (E : XK) : Prop := ∀ (pins : List (Addr × Obj)) (σ : St) (H : Hp) (s : Shared) (e : Value) (s' : Shared), Inv X pins σ H s → CX X.stack H s E e s' → X.xe e s'
section
variable {X : Cx} {CX : CXT} {k : Nat} {f C : Addr} {fd : FuncData} {ps : List Str} {sp : Sp} {dvs : List V} {ds : List Value} {E : XK} {x m : Str} {p pos apos : Pos} {e o : Expr} {es : List Expr} {ta : TE} {t : TA}
theorem run_fn {pins : List (Addr × Obj)} {σ : St} {H : Hp} {s : Shared} {Q : VK} {us : List Value} {vs : List V} (F : FnOk X.prog X.w X.K X.mg X.base CX k f fd ps sp) (hr : Room k X.A) (hb : Binds X.K fd ps ds) (hd : Vals dvs ds) (hx : Passes CX X E)
    (I : Inv X pins σ H s) (r : Vals vs us) (h : sp (vs ++ dvs) H Q E) : wpAny (model X.prog X.w) X.A (call (.ref f) us) (EP X pins σ Q) X.xe s := by
  have r2 : Vals (vs ++ dvs) (us ++ ds) := r.append hd
  have hl : (us ++ ds).length = ps.length := by rw [← r2.length]; exact F.len _ _ _ _ h
  refine wpAny_call (codeAny_mono (F.run X.A X.stack s H ⟨us, []⟩ (us ++ ds) (vs ++ dvs) Q E hr I.env0 (hb s us I.kIn hl) r2 h) fun r s' hq => ?_)
  cases r with
  | error e => exact hx pins σ H s e s' I hq
  | ok fl =>
    cases fl with
    | ret u => exact I.after hq
    | next => exact False.elim hq
    | brk => exact False.elim hq
    | cont => exact False.elim hq
theorem pe_call (F : FnOk X.prog X.w X.K X.mg X.base CX k f fd ps sp) (hr : Room k X.A) (hg : Gl X x) (hm : X.mg x = some (.ref f)) (hk : PySem.W.keepIn X.K (.ref f) = true) (hb : Binds X.K fd ps ds) (hd : Vals dvs ds) (hx : Passes CX X E)
    (ha : PA X (e :: es) t) (hdb : (x == ("__debug__" : Str)) = false := by decide) (he : starEach (e :: es) X.env = (false, eval e X.env) :: starEach es X.env := by rfl) (hpl : (backTo pos (starEach es X.env)).any (·.1) = false := by rfl) :
    PE X (.Call (.Name x p) (e :: es) [] pos) (tCall sp dvs E t) := by
  intro pins s σ H Q I h
  refine wpAny_Call_Name_kw (ld_glob I hg hm ?_ hdb)
  refine PySem.W.callWith_K (h₀ := X.base) I.ok.mod.kin hk (thn (ha pos pins s σ H _ I h) fun us s1 ⟨vs, H1, I1, r, q⟩ => ⟨I1.kIn, ?_⟩) he hpl
  exact run_fn F hr hb hd hx I1 r q
theorem pe_call0 (F : FnOk X.prog X.w X.K X.mg X.base CX k f fd ps sp) (hr : Room k X.A) (hg : Gl X x) (hm : X.mg x = some (.ref f)) (hk : PySem.W.keepIn X.K (.ref f) = true) (hb : Binds X.K fd ps ds) (hd : Vals dvs ds) (hx : Passes CX X E)
    (hdb : (x == ("__debug__" : Str)) = false := by decide) : PE X (.Call (.Name x p) [] [] pos) (tCall sp dvs E tNil) := by
  intro pins s σ H Q I h
  refine wpAny_Call_Name_kw (ld_glob I hg hm ?_ hdb)
  exact PySem.W.callWith_K0 I.kIn hk (run_fn (us := []) F hr hb hd hx I .nil h)
end
section
variable {X : Cx} {CX : CXT} {k : Nat} {f C : Addr} {fd : FuncData} {ps ks : List Str} {sp : Sp} {E : XK} {x m : Str} {p pos apos kpos : Pos} {e o : Expr} {es : List Expr} {kws : List Keyword} {te ta : TE} {t tk : TA} {nm : Option Str}
variable {g : List Value → List Value → List Value} {gV : List V → List V → List V}
end
structure FnScope (N P : List Str) (sc : Scope) : Prop where
  kind : sc.kind = .function
  co : sc.isCoroutine = false
  gen : sc.isGenerator = false
  nd : N.Nodup
  pre : N.take P.length = P
  par : ∀ x ∈ P, sc.names.lookup x = some .local ∨ sc.names.lookup x = some .cell
  nofree : ∀ y ∈ sc.names, y.2 ≠ .free
theorem bindL_out {kindOf : Str → Option NameKind} {x : Str} : ∀ {binds : List (Str × Value)} {m : Str → Option Value}, (∀ v, (x, v) ∉ binds) → bindL kindOf binds m x = m x
  | [], _, _ => rfl
  | (n, v) :: r, m, h => by
    unfold bindL
    rw [bindL_out fun w hw => h w (List.mem_cons_of_mem _ hw)]
    split
    · have : x ≠ n := by rintro rfl; exact h v List.mem_cons_self
      simp [this]
    · rfl
theorem bindC_out {kindOf : Str → Option NameKind} {x : Str} : ∀ {binds : List (Str × Value)} {m : Str → Option Value}, (∀ v, (x, v) ∉ binds) → bindC kindOf binds m x = m x
  | [], _, _ => rfl
  | (n, v) :: r, m, h => by
    unfold bindC
    rw [bindC_out fun w hw => h w (List.mem_cons_of_mem _ hw)]
    split
    · rfl
    · have : x ≠ n := by rintro rfl; exact h v List.mem_cons_self
      simp [this]
theorem bindL_get {kindOf : Str → Option NameKind} {x : Str} {v : Value} : ∀ {P : List Str} {vs : List Value} {i : Nat} {m : Str → Option Value}, P.Nodup → P[i]? = some x → vs[i]? = some v → kindOf x = some .local →
    bindL kindOf (P.zip vs) m x = some v
  | [], _, _, _, _, h, _, _ => by simp at h
  | _ :: _, [], _, _, _, _, h, _ => by simp at h
  | p :: P, w :: vs, 0, m, nd, h1, h2, hk => by
    simp at h1 h2; subst h1; subst h2
    show bindL kindOf ((p, w) :: P.zip vs) m p = _
    unfold bindL
    rw [bindL_out fun v hv => (List.nodup_cons.mp nd).1 (List.of_mem_zip hv).1, if_pos hk]
    simp
  | p :: P, w :: vs, i + 1, m, nd, h1, h2, hk => by
    show bindL kindOf ((p, w) :: P.zip vs) m x = _
    unfold bindL
    exact bindL_get (i := i) (List.nodup_cons.mp nd).2 (by simpa using h1) (by simpa using h2) hk
theorem bindC_get {kindOf : Str → Option NameKind} {x : Str} {v : Value} : ∀ {P : List Str} {vs : List Value} {i : Nat} {m : Str → Option Value}, P.Nodup → P[i]? = some x → vs[i]? = some v → kindOf x ≠ some .local →
    bindC kindOf (P.zip vs) m x = some v
  | [], _, _, _, _, h, _, _ => by simp at h
  | _ :: _, [], _, _, _, _, h, _ => by simp at h
  | p :: P, w :: vs, 0, m, nd, h1, h2, hk => by
    simp at h1 h2; subst h1; subst h2
    show bindC kindOf ((p, w) :: P.zip vs) m p = _
    unfold bindC
    rw [bindC_out fun v hv => (List.nodup_cons.mp nd).1 (List.of_mem_zip hv).1, if_neg hk]
    simp
  | p :: P, w :: vs, i + 1, m, nd, h1, h2, hk => by
    show bindC kindOf ((p, w) :: P.zip vs) m x = _
    unfold bindC
    exact bindC_get (i := i) (List.nodup_cons.mp nd).2 (by simpa using h1) (by simpa using h2) hk
def start (N : List Str) (vs : List V) : St := vs.map some ++ List.replicate (N.length - vs.length) none
def cxOf (CX : CXT) (P : Program) (w : World) (K : PySem.W.Frag) (mg : Str → Option Value) (base : Heap) (N : List Str) (qual : Str) (scope : Scope) (f : Addr) (cd : Value) (A : Around) (outer : List Env) (s : Shared) (H : Hp) (E : XK) : Cx where
  prog := P
  w := w
  K := K
  mg := mg
  base := base
  A := A.deeper (envOfC qual scope s.heap.objs.size f cd)
  N := N
  s_0 := s
  H_0 := H
  env := envOfC qual scope s.heap.objs.size f cd
  outer := outer
  stack := envOfC qual scope s.heap.objs.size f cd :: outer
  ex := []
  calm := true
  fn := fun _ => true
  pn := []
  xe := fun e s' => wpAny (model P w) (A.deeper (envOfC qual scope s.heap.objs.size f cd)) (leaving (envOfC qual scope s.heap.objs.size f cd) e) (fun _ s'' => CX outer H s E e s'') (fun e' s'' => CX outer H s E e' s'') s'
theorem cell_has {sc : Scope} {n : Nat} {x : Str} (h : sc.names.lookup x = some .cell) : ∃ c, (cellsFrom n sc.names []).lookup x = some c := by
  have q := PySem.W.cellsFrom_some sc.names n [] (.inl h)
  exact Option.isSome_iff_exists.mp q
theorem inv_start {CX : CXT} {P : Program} {w : World} {K : PySem.W.Frag} {mg : Str → Option Value} {base : Heap} {N ps : List Str} {qual : Str} {scope : Scope} {f : Addr} {cd : Value} {A : Around} {outer : List Env} {s s1 : Shared} {H : Hp} {E : XK} {us : List Value} {vs : List V}
    (S : FnScope N ps scope) (hd : A.handled = none) (e0 : Env0 P w K mg base A outer s H) (hl : vs.length = ps.length) (r : Vals vs us)
    (x : InCallC s s.heap.objs.size (bindL (envOfC qual scope s.heap.objs.size f cd).kindOf (ps.zip us) fun _ => none) (cellsFrom (s.heap.objs.size + 1) scope.names []) (bindC (envOfC qual scope s.heap.objs.size f cd).kindOf (ps.zip us) fun _ => none) s1) :
    Inv (cxOf CX P w K mg base N qual scope f cd A outer s H E) [] (start N vs) H s1 := by
  have hpl : ps.length ≤ N.length := by have := congrArg List.length S.pre; rw [List.length_take] at this; omega
  obtain ⟨h1, tk, rfl, hk⟩ := x.done
  have noA : ∀ b : Addr, b ∉ (cxOf CX P w K mg base N qual scope f cd A outer s H E).ex := fun b z => absurd (show b ∈ ([] : List Addr) from z) (by simp)
  refine ⟨⟨e0.mod, S.kind, rfl, rfl, Nat.le_refl _, fun y z c h1 h2 => ?_, fun y hy => ?_, fun y c _ h => ?_, fun _ => hd, Around.frames_deeper e0.frames, .inr ⟨rfl, rfl⟩, fun b z => absurd z (noA b), e0.bs, e0.bsz, fun b _ _ => noA b, fun b z => absurd z (noA b), e0.funs, e0.frf⟩,
    rfl, e0.bare, Un.kept hk, ⟨_, x.toInCall.ns, fun i y v h1 h2 h3 => ?_⟩, fun y c h => ⟨_, x.cell y c h⟩, e0.hok.fresh (Nat.le_refl _), fun y c h => ?_, fun p hp => absurd (show p ∈ ([] : List (Addr × Obj)) from hp) (by simp), e0.hok.kept hk, ?_⟩
  · exact name_of_addr x.apart (PySem.mem_of_lookup h1) (PySem.mem_of_lookup h2)
  · have hy : scope.names.lookup y = some .cell ∨ scope.names.lookup y = some .free := hy
    rcases hy with hy | hy
    · exact cell_has hy
    · exact absurd rfl (S.nofree _ (PySem.mem_of_lookup hy))
  · exact Nat.le_of_lt (x.above y c (PySem.mem_of_lookup h))
  · have hi : i < vs.length := by
      unfold start at h2
      by_cases hi : i < vs.length
      · exact hi
      · rw [List.getElem?_append_right (by simpa using hi)] at h2
        rw [List.getElem?_replicate] at h2
        split at h2 <;> cases h2
    have ha : vs[i]? = some v := by
      unfold start at h2
      rw [List.getElem?_append_left (by simpa using hi), List.getElem?_map] at h2
      cases e : vs[i]? with
      | none => rw [e] at h2; cases h2
      | some a => rw [e] at h2; cases h2; rfl
    obtain ⟨u, hu, rv⟩ := r.get ha
    have hp : ps[i]? = some y := by
      rw [← S.pre, List.getElem?_take_of_lt (by omega)]; exact h1
    have ndP : ps.Nodup := by rw [← S.pre]; exact S.nd.sublist (List.take_sublist _ _)
    refine ⟨u, rv, ?_⟩
    rcases S.par y (List.mem_of_getElem? hp) with k | k
    · exact .inl ⟨k, bindL_get ndP hp hu k⟩
    · obtain ⟨c, e⟩ := cell_has (n := s.heap.objs.size + 1) k
      refine .inr ⟨.inl k, c, e, ?_⟩
      have q := x.cell y c e
      rw [bindC_get ndP hp hu (by show scope.names.lookup y ≠ _; rw [k]; decide)] at q
      exact q
  · exact e0.hok.fresh (Nat.le_of_lt (x.above y c (PySem.mem_of_lookup h)))
  · unfold start
    show _ = N.length
    rw [List.length_append, List.length_map, List.length_replicate]
    omega
theorem fn_of {CX : CXT} {P : Program} {w : World} {K : PySem.W.Frag} {mg : Str → Option Value} {base : Heap} {k : Nat} {f : Addr} {name qual : Str} {params : Arguments} {body : List Stmt} {scope : Scope} {dV kV doc pm cdv ct oc : Value} {an od : Option Addr}
    {osl : Array (Option Value)} {N ps : List Str} {sp : Sp} (lk : K.lookup f = some ⟨oc, od, .func (PySem.W.fnOf name qual params body scope dV kV doc pm an cdv ct), osl⟩) (hcd : PySem.W.codeIn K cdv qual = true) (S : FnScope N ps scope)
    (len : ∀ vs H Q E, sp vs H Q E → vs.length = ps.length)
    (hbody : ∀ (A : Around) (outer : List Env) (s : Shared) (H : Hp) (vs : List V) (Q : VK) (E : XK), Room k (A.deeper (envOfC qual scope s.heap.objs.size f cdv)) → sp vs H Q E →
      ∃ t, PSs (cxOf CX P w K mg base N qual scope f cdv A outer s H E) body t ∧ t { nx := fun _ H' => Q .non H', rt := Q } (start N vs) H) :
    FnOk P w K mg base CX (k + 1) f (PySem.W.fnOf name qual params body scope dV kV doc pm an cdv ct) ps sp := by
  refine ⟨len, fun A outer s H args us vs Q E hr e0 hb r hsp => ?_⟩
  have hl := len _ _ _ _ hsp
  have KX : K.In s.heap := e0.mod.kin.keeps fun b o e => (e0.bs b o e).1
  have lim : s.heap.NoLimit := e0.mod.nolimit.keeps fun b o e => (e0.bs b o e).1
  have hkind : ∀ y ∈ ps.zip us, scope.names.lookup y.1 = some .local ∨ (scope.names.lookup y.1 = some .cell ∧ ((cellsFrom (s.heap.objs.size + 1) scope.names []).lookup y.1).isSome = true) := fun ⟨n, v⟩ hy => by
    rcases S.par n (List.of_mem_zip hy).1 with q | q
    · exact .inl q
    · exact .inr ⟨q, PySem.W.cellsFrom_some _ _ _ (.inl q)⟩
  refine codeAny_call_function hr.depth (KX _ _ lk) rfl S.co S.gen rfl (PySem.W.codeRec_of KX hcd) (hb _ _ _ _ ?_)
  refine wpAny_newFunctionEnv_cells S.kind hkind fun env he s1 x => ?_
  subst he
  refine ⟨lim.keeps x.toInCall.keep, codeAny_func ?_⟩
  obtain ⟨t, ht, hq⟩ := hbody A outer s H vs Q E (hr.deeper _) hsp
  have I : Inv (cxOf CX P w K mg base N qual scope f cdv A outer s H E) [] (start N vs) H s1 := inv_start S hr.hd e0 hl r x
  refine wpAny_mono (ht [] s1 (start N vs) H _ I hq) (fun fl s' hs => ?_) fun e s' hs => hs
  have fin : ∀ {σ' : St} {H' : Hp} {v : V} {u : Value}, Inv (cxOf CX P w K mg base N qual scope f cdv A outer s H E) [] σ' H' s' → RelV v u → Q v H' → CE outer P w H s Q u s' :=
    fun {σ' H' v u} J rv q => ⟨v, H', J.os, J.bare, J.base, J.hok, rv, q⟩
  cases fl with
  | ret u =>
    obtain ⟨v, σ', H', J, rv, q⟩ := hs
    exact fin J rv q
  | next =>
    obtain ⟨σ', H', J, q⟩ := hs
    exact fin (v := V.non) (u := Value.none) J rfl q
  | brk =>
    obtain ⟨_, _, _, q⟩ := hs
    exact False.elim q
  | cont =>
    obtain ⟨_, _, _, q⟩ := hs
    exact False.elim q
end L2
namespace L2
open PySem PySem.Spec PyProof.Rows
section
variable {X : Cx} {x : Str} {p pos : Pos} {e : Expr} {es : List Expr} {t : TA} {id T : String} {r : List V → Hp → VK → Prop}
def tCB (r : List V → Hp → VK → Prop) (t : TA) : TE := fun σ H Q => t σ H fun vs H1 => r vs H1 Q
theorem pe_callB (hc : CallR X (.builtin id) r) (hg : Gl X x) (hm : X.mg x = none) (hv : bootBuiltins x = some (.builtin id)) (ha : PA X (e :: es) t) (hn : x ≠ "__name__" := by decide) (hdb : (x == ("__debug__" : Str)) = false := by decide)
    (he : starEach (e :: es) X.env = (false, eval e X.env) :: starEach es X.env := by rfl) (hpl : (backTo pos (starEach es X.env)).any (·.1) = false := by rfl) : PE X (.Call (.Name x p) (e :: es) [] pos) (tCB r t) := by
  intro pins s σ H Q I h
  refine wpAny_Call_Name_kw (ld_blt I hg hm hv ?_ hn hdb)
  exact PyProof.Rows.callWith_builtin1 (thn (ha pos pins s σ H _ I h) fun us s1 ⟨vs, H1, I1, r1, q1⟩ => hc pins s1 σ H1 vs us Q I1 r1 q1) he hpl
theorem pe_callTy (hc : CallR X (.type T) r) (hg : Gl X x) (hm : X.mg x = none) (hv : bootBuiltins x = some (.type T)) (ha : PA X (e :: es) t) (hn : x ≠ "__name__" := by decide) (hdb : (x == ("__debug__" : Str)) = false := by decide)
    (he : starEach (e :: es) X.env = (false, eval e X.env) :: starEach es X.env := by rfl) (hpl : (backTo pos (starEach es X.env)).any (·.1) = false := by rfl) : PE X (.Call (.Name x p) (e :: es) [] pos) (tCB r t) := by
  intro pins s σ H Q I h
  refine wpAny_Call_Name_kw (ld_blt I hg hm hv ?_ hn hdb)
  exact PyProof.Rows.callWith_type1 (thn (ha pos pins s σ H _ I h) fun us s1 ⟨vs, H1, I1, r1, q1⟩ => hc pins s1 σ H1 vs us Q I1 r1 q1) he hpl
end
end L2
namespace HT
open PySem PyProof.Rows
section
open PySem.SeqAt
open PySem.AutoSeq1 (wpAny_loadPart')
open PySem.MeetsSeq PySem.MeetsSeq2 PySem.MeetsSeq3
end
section
variable {prog : Program} {w : World} {A : Around} {E : Value → Shared → Prop} {s : Shared}
theorem cat_tup {t b : Addr} {vs ws : List Value} {Q : Value → Shared → Prop} (ht : IsTup s.heap t vs.toArray) (hb : IsTup s.heap b ws.toArray) (hv : vs ≠ [])
    (h1 : ws = [] → Q (.ref t) s) (h2 : ws ≠ [] → Q (.ref s.heap.objs.size) { s with heap := s.heap.push { cls := .type "tuple", data := .seq (vs ++ ws).toArray } })
    (hsz : vs.length + ws.length ≤ sizeLine) : wpAny (model prog w) A (binaryOp .Add (.ref t) (.ref b)) Q E s := by
  obtain ⟨⟨cls, dd, data, sl⟩, ho, hc, n, hd⟩ := id ht
  obtain ⟨⟨cls2, dd2, data2, sl2⟩, ho2, hc2, n2, hd2⟩ := id hb
  simp only at hc hd hc2 hd2
  subst hc hd hc2 hd2
  have e : vs.toArray ++ ws.toArray = (vs ++ ws).toArray := by simp
  by_cases hw : ws = []
  · exact concat_meets ⟨_, ho, rfl⟩ ⟨_, ho2, rfl⟩ noFill_tuple_add seq_tuple_add PySem.F.slot_tuple_add PySem.F.entry_tuple_add (PySem.F.args_tuple_add_2 _ _)
      (tuple_addW1 t b vs.toArray ws.toArray n n2 dd dd2 sl sl2 (by simpa using hv) (by simp [hw])) ⟨ho, ho2, h1 hw⟩
  · refine concat_meets ⟨_, ho, rfl⟩ ⟨_, ho2, rfl⟩ noFill_tuple_add seq_tuple_add PySem.F.slot_tuple_add PySem.F.entry_tuple_add (PySem.F.args_tuple_add_2 _ _)
      (tuple_addW2 t b vs.toArray ws.toArray n n2 dd dd2 sl sl2 (by simpa using hv) (by simpa using hw) (by rw [List.size_toArray, List.size_toArray]; exact hsz)) ⟨ho, ho2, ?_⟩
    rw [e]
    exact h2 hw
def sIx (n d : Nat) : Option Int → Nat
  | none => d
  | some v => if v < 0 then (v + (n : Int)).toNat else min v.toNat n
theorem sIx_none (n d : Nat) : sIx n d none = d := rfl
theorem sIx_le (n d : Nat) (hd : d ≤ n) (o : Option Int) : sIx n d o ≤ n := by
  cases o with
  | none => exact hd
  | some v =>
    show (if v < 0 then (v + (n : Int)).toNat else min v.toNat n) ≤ n
    by_cases hv : v < 0
    · rw [if_pos hv]; omega
    · rw [if_neg hv]; exact Nat.min_le_right _ _
theorem clip_eq (v : Int) (n d : Nat) : (if v < 0 then max (v + (n : Int)) 0 else min v (n : Int)) = ((sIx n d (some v) : Nat) : Int) := by
  show (if v < 0 then max (v + (n : Int)) 0 else min v (n : Int)) = (((if v < 0 then (v + (n : Int)).toNat else min v.toNat n) : Nat) : Int)
  by_cases hv : v < 0
  · simp only [if_pos hv]; omega
  · simp only [if_neg hv]; omega
theorem adjust_gen (lo hi : Option Int) (n : Nat) : Builtin.Slice.sliceAdjust lo hi 1 (n : Int) = (((sIx n 0 lo : Nat) : Int), ((sIx n n hi : Nat) : Int)) := by
  have h1 : ¬ ((1 : Int) < 0) := by omega
  unfold Builtin.Slice.sliceAdjust
  simp only [h1, if_false]
  refine Prod.ext ?_ ?_
  · cases lo with
    | none => rfl
    | some v => exact clip_eq v n 0
  · cases hi with
    | none => rfl
    | some v => exact clip_eq v n n
theorem places_gen (i j : Nat) : Builtin.Slice.slicePlaces (i : Int) (j : Int) 1 = j - i := by
  unfold Builtin.Slice.slicePlaces
  have h1 : (1 : Int) > 0 := by omega
  simp only [h1, if_true, Int.ediv_one]
  split <;> omega
theorem slicePart_ {v : Value} {o : Option Int} {Q : Option Int → Shared → Prop} (p : IsPart v o) (h : Q o s) : wpAny (model prog w) A (Builtin.Slice.slicePartIndex v) Q E s := by
  cases p with
  | none => exact slicePart_none h
  | int i t => exact slicePart_int h
theorem sliceApplied_gen {sl : Addr} {vl vu : Value} {lo hi : Option Int} {n : Nat} {Q : Int × Int × Nat → Shared → Prop} (hs : s.heap.IsSliceOf sl vl vu .none) (pl : IsPart vl lo) (pu : IsPart vu hi)
    (h : Q (((sIx n 0 lo : Nat) : Int), 1, sIx n n hi - sIx n 0 lo) s) : wpAny (model prog w) A (Builtin.Slice.sliceApplied (.ref sl) (pure (n : Int))) Q E s := by
  obtain ⟨os, hos, hcs, hds⟩ := id hs
  unfold Builtin.Slice.sliceApplied Builtin.Slice.sliceFields
  refine wpAny_bind (wpAny_bind (wpAny_field hos hds (x := vl) rfl (wpAny_bind (wpAny_field hos hds (x := vu) rfl (wpAny_bind (wpAny_field hos hds (x := .none) rfl (wpAny_pure ?_)))))))
  refine wpAny_bind (slicePart_none ?_)
  show wpAny _ _ (if ((1 : Int) == 0) = true then _ else _) _ _ s
  rw [if_neg (by decide)]
  refine wpAny_bind (slicePart_ pl (wpAny_bind (slicePart_ pu (wpAny_bind (wpAny_pure ?_)))))
  show wpAny _ _ (match Builtin.Slice.sliceAdjust lo hi 1 (n : Int) with | (lo, hi) => pure (lo, (1 : Int), Builtin.Slice.slicePlaces lo hi 1)) _ _ s
  rw [adjust_gen lo hi n]
  show wpAny _ _ (pure (((sIx n 0 lo : Nat) : Int), (1 : Int), Builtin.Slice.slicePlaces ((sIx n 0 lo : Nat) : Int) ((sIx n n hi : Nat) : Int) 1)) _ _ s
  rw [places_gen]
  exact wpAny_pure h
theorem pick_gen (xs : Array Value) (i k : Nat) : ((List.range k).filterMap fun (m : Nat) => xs[((i : Int) + (m : Int) * 1).toNat]?).toArray = ((xs.toList.drop i).take k).toArray := by
  have e : (fun (m : Nat) => xs[((i : Int) + (m : Int) * 1).toNat]?) = fun m => xs[i + m]? := by
    funext m
    have : ((i : Int) + (m : Int) * 1).toNat = i + m := by omega
    rw [this]
  rw [e]
  have := pick_run xs i k
  rw [List.filterMap_map] at this
  have e2 : ((fun x => xs[x]?) ∘ fun x => i + x) = fun m => xs[i + m]? := rfl
  rw [e2] at this
  rw [this]
theorem getItem_tuple_cut {t sl : Addr} {items : Array Value} {vl vu : Value} {lo hi : Option Int} {Q : Value → Shared → Prop} (ht : IsTup s.heap t items) (hs : s.heap.IsSliceOf sl vl vu .none) (pl : IsPart vl lo) (pu : IsPart vu hi)
    (hw : ¬ (sIx items.size 0 lo = 0 ∧ sIx items.size items.size hi = items.size))
    (h : Q (.ref s.heap.objs.size) { s with heap := s.heap.push { cls := .type "tuple", data := .seq ((items.toList.drop (sIx items.size 0 lo)).take (sIx items.size items.size hi - sIx items.size 0 lo)).toArray } })
    (hsz : items.size ≤ sizeLine) : wpAny (model prog w) A (getItem (.ref t) (.ref sl)) Q E s := by
  have htake : sizeOk (.seq ((items.toList.drop (sIx items.size 0 lo)).take (sIx items.size items.size hi - sIx items.size 0 lo)).toArray) := by
    show ((items.toList.drop (sIx items.size 0 lo)).take (sIx items.size items.size hi - sIx items.size 0 lo)).toArray.size ≤ sizeLine
    rw [List.size_toArray, List.length_take, List.length_drop, Array.length_toList]
    omega
  have hj : sIx items.size items.size hi ≤ items.size := sIx_le _ _ (Nat.le_refl _) hi
  obtain ⟨os, hos, hcs, hds⟩ := id hs
  have hTs : s.TypeIs (.ref sl) "slice" := ⟨os, hos, hcs⟩
  unfold getItem
  try with_reducible refine wpAny_holding ?_
  first | refine wpAny_bind (wpAny_pure ?_) | skip
  refine wpAny_bind (wpAny_sequenceKey ht.typeIs (by decide) ?_)
  refine wpAny_bind (wpAny_callSpecial?_slot (name := Str.ofString "__getitem__") ht.typeIs PyProof.Rows.slot_tuple_getitem
    (wpAny_call_entry PyProof.Rows.slot_tuple_getitem ht.typeIs entry_tuple_getitem ?_ (args_tuple_getitem _ _)))
  show wpAny _ _ (Builtin.Tuple.tupleItemsOf (.ref t) >>= _) _ _ s
  refine wpAny_bind (tupleItemsOf_ ht ?_)
  refine wpAny_bind (wpAny_typeOf hTs ?_)
  rw [if_pos (by decide)]
  refine wpAny_bind (sliceApplied_gen hs pl pu ?_)
  have hno : ¬ ((((sIx items.size 0 lo : Nat) : Int) == 0 && (1 : Int) == 1 && (sIx items.size items.size hi - sIx items.size 0 lo) == items.size) = true) := by
    intro q
    rw [Bool.and_eq_true, Bool.and_eq_true] at q
    have q1 : ((sIx items.size 0 lo : Nat) : Int) = 0 := eq_of_beq q.1.1
    have q2 : sIx items.size items.size hi - sIx items.size 0 lo = items.size := eq_of_beq q.2
    exact hw ⟨by omega, by omega⟩
  show wpAny _ _ (if (((sIx items.size 0 lo : Nat) : Int) == 0 && (1 : Int) == 1 && (sIx items.size items.size hi - sIx items.size 0 lo) == items.size) = true then _ else _) _ _ s
  rw [if_neg hno, pick_gen]
  first
    | exact wpAny_bind (m := Builtin.Tuple.tupleExact _) (wpAny_newObj_type (wpAny_pure ⟨_, rfl, wpAny_pure h⟩) htake)
    | exact wpAny_bind (m := Builtin.Tuple.tupleExact _) (wpAny_newObj_type (wpAny_bind (wpAny_pure (wpAny_pure ⟨_, rfl, wpAny_pure h⟩))) htake)
    | exact wpAny_bind (wpAny_bind (m := Builtin.Tuple.tupleExact _) (wpAny_newObj_type (wpAny_pure (wpAny_pure ⟨_, rfl, wpAny_pure h⟩)) htake))
    | exact wpAny_bind (wpAny_bind (m := Builtin.Tuple.tupleExact _) (wpAny_newObj_type (wpAny_pure ⟨_, rfl, wpAny_pure h⟩) htake))
end
end HT
namespace L2
open PySem PySem.Spec PyProof.Rows
abbrev TO := St → Hp → (Option Int → Hp → Prop) → Prop
def PO (X : Cx) (e : Option Expr) (t : TO) : Prop :=
  ∀ (pins : List (Addr × Obj)) (s : Shared) (σ : St) (H : Hp) (Q : Option Int → Hp → Prop), Inv X pins σ H s → t σ H Q →
    wpAny (model X.prog X.w) X.A (evalPart e X.env) (fun u s' => ∃ o H', Inv X pins σ H' s' ∧ IsPart u o ∧ Q o H') X.xe s
def tNoPart : TO := fun _ H Q => Q none H
def tPart (t : TE) : TO := fun σ H Q => t σ H fun x H1 => ∃ i, x = .int i ∧ Q (some i) H1
section
variable {X : Cx} {e : Expr} {te : TE} {lo hi : Option Expr} {tl th : TO} {pos p2 : Pos}
theorem po_none : PO X none tNoPart := by
  intro pins s σ H Q I h
  rw [evalPart_none]
  exact wpAny_pure ⟨none, H, I, .none, h⟩
theorem po_some (h : PE X e te) : PO X (some e) (tPart te) := by
  intro pins s σ H Q I hw
  rw [evalPart_some]
  refine thn (h pins s σ H _ I hw) fun u s1 ⟨x, H1, I1, r1, q1⟩ => ?_
  obtain ⟨i, rfl, q⟩ := q1
  obtain ⟨t, rfl⟩ := r1
  exact ⟨some i, H1, I1, .int i t, q⟩
def SlR (X : Cx) (r : V → Option Int → Option Int → Hp → VK → Prop) : Prop :=
  ∀ (pins : List (Addr × Obj)) (s : Shared) (σ : St) (H : Hp) (x : V) (v vl vu : Value) (lo hi : Option Int) (sl : Addr) (Q : VK), Inv X pins σ H s → RelV x v → s.heap.IsSliceOf sl vl vu .none → IsPart vl lo → IsPart vu hi → r x lo hi H Q →
    ∃ T id, typeLookup (.type T) "__getitem__" = pure (some (.builtin id)) ∧ s.TypeIs v T ∧ wpAny (model X.prog X.w) X.A (getItem v (.ref sl)) (EP X pins σ Q) X.xe s
theorem SlR.or {r r' : V → Option Int → Option Int → Hp → VK → Prop} (h : SlR X r) (h' : SlR X r') : SlR X (fun x lo hi H Q => r x lo hi H Q ∨ r' x lo hi H Q) := by
  intro pins s σ H x v vl vu lo hi sl Q I rx hs pl pu q
  rcases q with q | q
  · exact h pins s σ H x v vl vu lo hi sl Q I rx hs pl pu q
  · exact h' pins s σ H x v vl vu lo hi sl Q I rx hs pl pu q
def tSl (r : V → Option Int → Option Int → Hp → VK → Prop) (te : TE) (tl th : TO) : TE := fun σ H Q => te σ H fun x H1 => tl σ H1 fun l H2 => th σ H2 fun u H3 => r x l u H3 Q
theorem pe_slice {r : V → Option Int → Option Int → Hp → VK → Prop} (hr : SlR X r) (he : PE X e te) (hl : PO X lo tl) (hu : PO X hi th) : PE X (.Subscript e (.Slice lo hi none p2) pos) (tSl r te tl th) := by
  intro pins s σ H Q I h
  refine Subscript_ (thn (he pins s σ H _ I h) fun v s1 ⟨x, H1, I1, r1, q1⟩ => ?_)
  refine wpAny_Slice (thn (hl pins s1 σ H1 _ I1 q1) fun vl s2 ⟨l, H2, I2, pl, q2⟩ => thn (hu pins s2 σ H2 _ I2 q2) fun vu s3 ⟨u, H3, I3, pu, q3⟩ => ?_)
  rw [evalPart_none]
  refine wpAny_pure ?_
  have I4 : Inv X pins σ H3 { s3 with heap := s3.heap.push { cls := .type "slice", data := .fields #[vl, vu, .none] } } := I3.kept (t' := s3.toks) fun b ob q => Heap.get?_push_of_some _ q
  obtain ⟨T, id, hT, ht, hg⟩ := hr pins { s3 with heap := s3.heap.push { cls := .type "slice", data := .fields #[vl, vu, .none] } } σ H3 x v vl vu l u s3.heap.objs.size Q I4 r1 (Heap.IsSliceOf.new ..) pl pu q3
  show wpAny (model X.prog X.w) X.A (subscriptTail e (.Slice lo hi none p2) v (.ref s3.heap.objs.size)) (EP X pins σ Q) X.xe { s3 with heap := s3.heap.push { cls := .type "slice", data := .fields #[vl, vu, .none] } }
  exact tail_any (ops := [.ref s3.heap.objs.size, v]) ht hT hg (by with_unfolding_all rfl)
def cutV (xs : List V) (lo hi : Option Int) : List V := (xs.drop (HT.sIx xs.length 0 lo)).take (HT.sIx xs.length xs.length hi - HT.sIx xs.length 0 lo)
theorem cutV_length (xs : List V) (lo hi : Option Int) : (cutV xs lo hi).length ≤ xs.length := by
  unfold cutV
  rw [List.length_take, List.length_drop]
  omega
def rSlT (K : PySem.W.Frag) : V → Option Int → Option Int → Hp → VK → Prop := fun x lo hi H Q => ∃ a xs, x = .ref a ∧ SqT K H a xs ∧
  ¬ (HT.sIx xs.length 0 lo = 0 ∧ HT.sIx xs.length xs.length hi = xs.length) ∧ ∀ p, H p = none → Q (.ref p) (upd H p (.tup (cutV xs lo hi)))
theorem sl_tup : SlR X (rSlT X.K) := by
  intro pins s σ H x v vl vu lo hi sl Q I rx hs pl pu h
  obtain ⟨a, xs, rfl, hx, hw, q⟩ := h
  cases rx
  obtain ⟨its, r, ht, hz⟩ := I.tuple hx
  have hlen : its.toArray.size = xs.length := by rw [List.size_toArray]; exact r.length.symm
  refine ⟨"tuple", _, PyProof.Rows.slot_tuple_getitem.lookup, ht.typeIs, ?_⟩
  refine HT.getItem_tuple_cut ht hs pl pu (by rw [hlen]; exact hw) ?_ (by rw [hlen]; exact hz)
  rw [hlen]
  refine ⟨.ref s.heap.objs.size, _, I.laid (t' := s.toks) (o := .tup (cutV xs lo hi)) (fun b ob q => Heap.get?_push_of_some _ q) (Nat.le_refl _) ?_, rfl, q _ (I.hok.fresh (Nat.le_refl _))⟩
  exact ⟨Nat.le_trans (cutV_length xs lo hi) hz, _, (r.drop (HT.sIx xs.length 0 lo)).take (HT.sIx xs.length xs.length hi - HT.sIx xs.length 0 lo), IsTup.new _ _⟩
def rCatT (K : PySem.W.Frag) : R2 := fun x y H Q => ∃ a b xs ys, x = .ref a ∧ y = .ref b ∧ SqT K H a xs ∧ SqT K H b ys ∧ xs ≠ [] ∧ xs.length + ys.length ≤ sizeLine ∧
  (ys = [] → Q (.ref a) H) ∧ (ys ≠ [] → ∀ p, H p = none → Q (.ref p) (upd H p (.tup (xs ++ ys))))
theorem Vals.nil_iff {xs : List V} {us : List Value} (r : Vals xs us) : us = [] ↔ xs = [] := by
  cases r with
  | nil => simp
  | cons _ _ => simp
theorem op_catT : OpR X (binaryOp .Add) (rCatT X.K) := by
  intro pins s σ H x y v u Q I rx ry h
  obtain ⟨a, b, xs, ys, rfl, rfl, ha, hb, hx, hz, q1, q2⟩ := h
  cases rx
  cases ry
  obtain ⟨its, r1, p1, _⟩ := I.tuple ha
  obtain ⟨its2, r2, p2, _⟩ := I.tuple hb
  refine HT.cat_tup p1 p2 (fun z => hx (r1.nil_iff.mp z)) (fun z => ⟨.ref a, H, I, rfl, q1 (r2.nil_iff.mp z)⟩) (fun z => ?_) (by rw [← r1.length, ← r2.length]; exact hz)
  refine ⟨.ref s.heap.objs.size, _, I.laid (t' := s.toks) (o := .tup (xs ++ ys)) (fun b ob q => Heap.get?_push_of_some _ q) (Nat.le_refl _) ?_, rfl, q2 (fun w => z (r2.nil_iff.mpr w)) _ (I.hok.fresh (Nat.le_refl _))⟩
  exact ⟨by rw [List.length_append]; exact hz, _, r1.append r2, IsTup.new _ _⟩
end
end L2
namespace L2
open PySem PySem.Spec PyProof.Rows
def ixN (n : Nat) (i : Int) : Option Nat := if 0 ≤ i then (if i < n then some i.toNat else none) else if -(n : Int) ≤ i then some (i + n).toNat else none
def atI {α : Type} (xs : List α) (i : Int) : Option α := (ixN xs.length i).bind fun j => xs[j]?
theorem ixN_seq {n : Nat} {i : Int} {j : Nat} (h : ixN n i = some j) : seqIndex? i n = some j ∧ j < n ∧ -(n : Int) ≤ i ∧ i < n := by
  unfold ixN at h
  by_cases h0 : 0 ≤ i
  · rw [if_pos h0] at h
    by_cases h1 : i < n
    · rw [if_pos h1] at h
      have e : i.toNat = j := Option.some.inj h
      exact ⟨by rw [seqIndex_of h0 h1, e], by omega, by omega, h1⟩
    · rw [if_neg h1] at h; cases h
  · rw [if_neg h0] at h
    by_cases h1 : -(n : Int) ≤ i
    · rw [if_pos h1] at h
      have e : (i + n).toNat = j := Option.some.inj h
      exact ⟨by rw [seqIndex_neg (by omega) h1, e], by omega, h1, by omega⟩
    · rw [if_neg h1] at h; cases h
theorem atI_get {α : Type} {xs : List α} {i : Int} {v : α} (h : atI xs i = some v) : ∃ j, seqIndex? i xs.length = some j ∧ xs[j]? = some v ∧ j < xs.length ∧ -(xs.length : Int) ≤ i ∧ i < xs.length := by
  unfold atI at h
  cases e : ixN xs.length i with
  | none => rw [e] at h; cases h
  | some j =>
    rw [e] at h
    obtain ⟨h1, h2, h3, h4⟩ := ixN_seq e
    exact ⟨j, h1, h, h2, h3, h4⟩
theorem atI_nat {α : Type} {xs : List α} {j : Nat} {v : α} (h : xs[j]? = some v) : atI xs (j : Int) = some v := by
  have hj : j < xs.length := (List.getElem?_eq_some_iff.mp h).1
  have e : ixN xs.length (j : Int) = some j := by
    unfold ixN
    rw [if_pos (by omega), if_pos (by omega)]; simp
  unfold atI; rw [e]; exact h
def PlainIx (b : Expr) : Prop := ∀ o i, subscripted b false o i = operate [o, i] (getItem o i)
def IxR (X : Cx) (r : R2) : Prop :=
  ∀ (value slice : Expr) (pins : List (Addr × Obj)) (s : Shared) (σ : St) (H : Hp) (x y : V) (v u : Value) (Q : VK), Inv X pins σ H s → RelV x v → RelV y u → r x y H Q →
    subscripted slice false v u = operate [v, u] (getItem v u) → wpAny (model X.prog X.w) X.A (subscriptTail value slice v u) (EP X pins σ Q) X.xe s
def MtR (X : Cx) (id : String) (r : V → List V → Hp → VK → Prop) : Prop :=
  ∀ (pins : List (Addr × Obj)) (s : Shared) (σ : St) (H : Hp) (x : V) (xs : List V) (v : Value) (us : List Value) (Q : VK), Inv X pins σ H s → RelV x v → Vals xs us → r x xs H Q →
    wpAny (model X.prog X.w) X.A (call (.builtin id) (v :: us)) (EP X pins σ Q) X.xe s
section
variable {X : Cx} {a b : Expr} {ta tb : TE} {pos : Pos}
theorem IxR.or {r r' : R2} (h : IxR X r) (h' : IxR X r') : IxR X (fun x y H Q => r x y H Q ∨ r' x y H Q) := by
  intro value slice pins s σ H x y v u Q I rx ry q hs
  rcases q with q | q
  · exact h value slice pins s σ H x y v u Q I rx ry q hs
  · exact h' value slice pins s σ H x y v u Q I rx ry q hs
theorem MtR.or {id : String} {r r' : V → List V → Hp → VK → Prop} (h : MtR X id r) (h' : MtR X id r') : MtR X id (fun x xs H Q => r x xs H Q ∨ r' x xs H Q) := by
  intro pins s σ H x xs v us Q I rx rs q
  rcases q with q | q
  · exact h pins s σ H x xs v us Q I rx rs q
  · exact h' pins s σ H x xs v us Q I rx rs q
theorem pe_ix {r : R2} (hr : IxR X r) (ha : PE X a ta) (hb : PE X b tb) (hs : PlainIx b) : PE X (.Subscript a b pos) (tOp r ta tb) := by
  intro pins s σ H Q I h
  exact Subscript_ (binT ha hb I h fun v u s2 x y H2 I2 rx ry q => hr a b pins s2 σ H2 x y v u Q I2 rx ry q (hs _ _))
def rIxL (K : PySem.W.Frag) : R2 := fun x y H Q => ∃ p xs i v, x = .ref p ∧ y = .int i ∧ SqL K H p xs ∧ atI xs i = some v ∧ Q v H
def rIxT (K : PySem.W.Frag) : R2 := fun x y H Q => ∃ p xs i v, x = .ref p ∧ y = .int i ∧ SqT K H p xs ∧ atI xs i = some v ∧ Q v H
def rIxS : R2 := fun x y H Q => ∃ z i c, x = .str z ∧ y = .int i ∧ z.length ≤ sizeLine ∧ atI z.cps.toList i = some c ∧ Q (.str ⟨#[c]⟩) H
theorem ix_list : IxR X (rIxL X.K) := by
  intro value slice pins s σ H x y v u Q I rx ry h hs
  obtain ⟨p, xs, i, z, rfl, rfl, hq, he, q⟩ := h
  cases rx
  obtain ⟨t, rfl⟩ := ry
  obtain ⟨its, r, pl, hz⟩ := I.list hq
  obtain ⟨j, h1, h2, h3, h4, h5⟩ := atI_get he
  obtain ⟨w, ew, rw'⟩ := r.get h2
  have hl := r.length
  have hn := line63
  have fin : EP X pins σ Q w s := ⟨z, H, I, rw', q⟩
  by_cases h0 : 0 ≤ i
  · have hj : i.toNat = j := by
      rw [seqIndex_of h0 h5] at h1
      exact Option.some.inj h1
    exact item_listR pl.isList h0 (by omega) (by rw [hj]; simpa using ew) fin hs
  · have hj : (i + (its.toArray.size : Int)).toNat = j := by
      rw [seqIndex_neg (by omega) h4] at h1
      rw [List.size_toArray, ← hl]
      exact Option.some.inj h1
    exact subscriptTail_builtinR (x := w) pl.isList.typeIs slot_list_getitem.lookup
      (wpAny_getItem_list_neg (Q := fun r s' => r = w ∧ EP X pins σ Q r s') pl.isList (by omega) (by rw [List.size_toArray] <;> omega) (by omega) (by rw [hj]; simpa using ew) ⟨rfl, fin⟩) hs
theorem ix_tup : IxR X (rIxT X.K) := by
  intro value slice pins s σ H x y v u Q I rx ry h hs
  obtain ⟨p, xs, i, z, rfl, rfl, hq, he, q⟩ := h
  cases rx
  obtain ⟨t, rfl⟩ := ry
  obtain ⟨its, r, pl, hz⟩ := I.tuple hq
  obtain ⟨j, h1, h2, h3, h4, h5⟩ := atI_get he
  obtain ⟨w, ew, rw'⟩ := r.get h2
  have hl := r.length
  have hn := line63
  have fin : EP X pins σ Q w s := ⟨z, H, I, rw', q⟩
  exact subscriptTail_builtinR (x := w) pl.typeIs slot_tuple_getitem.lookup
    (getItem_tuple (j := j) (Q := fun r s' => r = w ∧ EP X pins σ Q r s') pl (by omega) (by omega) (by rw [List.size_toArray, ← hl]; exact h1) (by simpa using ew) ⟨rfl, fin⟩) hs
theorem ix_str : IxR X rIxS := by
  intro value slice pins s σ H x y v u Q I rx ry h hs
  obtain ⟨z, i, c, rfl, rfl, hz, he, q⟩ := h
  obtain ⟨t, rfl⟩ := rx
  obtain ⟨t', rfl⟩ := ry
  obtain ⟨j, h1, h2, h3, h4, h5⟩ := atI_get he
  have hl : z.cps.toList.length = z.length := by simp [Str.length]
  rw [hl] at h1 h4 h5
  have hn := line63
  exact tail_any (typeIs_str s z t) slot_str_getitem.lookup (getItem_str (c := c) (by
    have e1 : decide (i < -(2 ^ 63 : Int)) = false := decide_eq_false (by omega)
    have e2 : decide (i ≥ 2 ^ 63) = false := decide_eq_false (by omega)
    rw [e1, e2, Bool.or_false]) (by rw [h1]; simpa using h2) ⟨.str ⟨#[c]⟩, H, I.tok _, ⟨_, rfl⟩, q⟩) hs
def rIx (K : PySem.W.Frag) : R2 := fun x y H Q => rIxL K x y H Q ∨ rIxT K x y H Q ∨ rIxS x y H Q
theorem ix_seq : IxR X (rIx X.K) := ix_list.or (ix_tup.or ix_str)
theorem mapSeq_set (its : List Value) (n j : Nat) (u : Value) : Obj.mapSeq (·.setIfInBounds j u) { cls := .type "list", data := .seq its.toArray n } = { cls := .type "list", data := .seq (its.set j u).toArray n } := by
  simp [Obj.mapSeq]
theorem Inv.lst {pins : List (Addr × Obj)} {σ : St} {H : Hp} {s : Shared} {p : Addr} {xs : List V} (I : Inv X pins σ H s) (h : H p = some (.lst xs)) :
    ∃ (its : List Value) (n : Nat), Vals xs its ∧ s.heap.get? p = some { cls := .type "list", data := .seq its.toArray n } ∧ xs.length ≤ sizeLine := by
  obtain ⟨z, its, n, r, e⟩ := I.hok p _ h
  exact ⟨its, n, r, e, z⟩
theorem Inv.lstUpd {pins : List (Addr × Obj)} {σ : St} {H : Hp} {s : Shared} {p : Addr} {xs ys : List V} {its its' : List Value} {n n' : Nat} {f : Obj → Obj} (I : Inv X pins σ H s) (h : H p = some (.lst xs))
    (ho : s.heap.get? p = some { cls := .type "list", data := .seq its.toArray n }) (hf : f { cls := .type "list", data := .seq its.toArray n } = { cls := .type "list", data := .seq its'.toArray n' }) (r : Vals ys its') (hz : ys.length ≤ sizeLine) (t : Nat) :
    Inv X pins σ (upd H p (.lst ys)) { s with heap := s.heap.update p f, toks := t } := by
  have e : (s.heap.update p f).get? p = some { cls := .type "list", data := .seq its'.toArray n' } := by
    rw [Heap.get?_update_self f ho (by rw [hf] <;> rfl), hf]
  refine I.write (x := p) (e := p) (by rw [h]; trivial) (.inl rfl) (fun b u hb q => (Heap.get?_update_other _ _ (Ne.symm hb)).trans q) ⟨_, e⟩ ?_
  exact ⟨hz, its', n', r, e⟩
def rSetL : V → V → V → Hp → (Hp → Prop) → Prop := fun o i v H Q => ∃ p xs k j, o = .ref p ∧ i = .int k ∧ H p = some (.lst xs) ∧ ixN xs.length k = some j ∧ Q (upd H p (.lst (xs.set j v)))
theorem set_list : PSet X rSetL := by
  intro pins s σ H o i v ov iv u Q I ro ri rv h
  obtain ⟨p, xs, k, j, rfl, rfl, hp, hj, q⟩ := h
  cases ro
  obtain ⟨t, rfl⟩ := ri
  obtain ⟨its, n, r, ho, hz⟩ := I.lst hp
  obtain ⟨h1, h2, h3, h4⟩ := ixN_seq hj
  have hl := r.length
  have hn := line63
  have I' : Inv X pins σ (upd H p (.lst (xs.set j v))) { s with heap := s.heap.update p (Obj.mapSeq (·.setIfInBounds j u)) } :=
    I.lstUpd hp ho (mapSeq_set its n j u) (r.set rv j) (by rw [List.length_set]; exact hz) s.toks
  by_cases h0 : 0 ≤ k
  · have hk : k.toNat = j := by
      rw [seqIndex_of h0 h4] at h1
      exact Option.some.inj h1
    exact PySem.W.ki_setAt ho h0 (by omega) (by rw [List.size_toArray, ← hl]; exact h4) (by rw [hk]; exact ⟨_, I', q⟩)
  · have hk : (k + (its.toArray.size : Int)).toNat = j := by
      rw [seqIndex_neg (by omega) h3] at h1
      rw [List.size_toArray, ← hl]
      exact Option.some.inj h1
    exact PySem.W.ki_setBack ho (by omega) (by rw [List.size_toArray, ← hl]; exact h3) (by omega) (by rw [hk]; exact ⟨_, I', q⟩)
theorem slice_bounds (lo hi : Option Int) (n : Nat) : (sliceBounds lo hi none n).1 = ((HT.sIx n 0 lo : Nat) : Int) ∧ (sliceBounds lo hi none n).2.1 = ((HT.sIx n n hi : Nat) : Int) ∧ (sliceBounds lo hi none n).2.2 = 1 := by
  refine ⟨?_, ?_, rfl⟩
  · cases lo with
    | none => simp [sliceBounds, HT.sIx]
    | some i =>
      simp only [sliceBounds, HT.sIx, Option.getD_none, show (1 : Int) > 0 by decide, if_true]
      by_cases h : i < 0
      · simp only [h, if_true] <;> omega
      · simp only [h, if_false] <;> omega
  · cases hi with
    | none => simp [sliceBounds, HT.sIx]
    | some i =>
      simp only [sliceBounds, HT.sIx, Option.getD_none, show (1 : Int) > 0 by decide, if_true]
      by_cases h : i < 0
      · simp only [h, if_true] <;> omega
      · simp only [h, if_false] <;> omega
theorem slicePick_cut (its : List Value) (lo hi : Option Int) : slicePick its.toArray lo hi none = ((its.drop (HT.sIx its.length 0 lo)).take (HT.sIx its.length its.length hi - HT.sIx its.length 0 lo)).toArray := by
  obtain ⟨h1, h2, h3⟩ := slice_bounds lo hi its.toArray.size
  unfold slicePick
  rw [h1, h2, h3]
  simp only [sliceRange_one, pick_run, List.size_toArray] <;> rfl
def rSlL (K : PySem.W.Frag) : V → Option Int → Option Int → Hp → VK → Prop := fun x lo hi H Q => ∃ a xs, x = .ref a ∧ SqL K H a xs ∧ ∀ p, H p = none → Q (.ref p) (upd H p (.lst (cutV xs lo hi)))
theorem sl_list : SlR X (rSlL X.K) := by
  intro pins s σ H x v vl vu lo hi sl Q I rx hs pl pu h
  obtain ⟨a, xs, rfl, hx, q⟩ := h
  cases rx
  obtain ⟨its, r, ht, hz⟩ := I.list hx
  have hlen := r.length
  refine ⟨"list", _, slot_list_getitem.lookup, ht.isList.typeIs, ?_⟩
  refine wpAny_getItem_list_slice ht.isList hs pl pu .none (by simp) ?_ (by rw [List.size_toArray] <;> omega)
  rw [slicePick_cut, ← hlen]
  refine ⟨.ref s.heap.objs.size, _, I.laid (t' := s.toks) (o := .lst (cutV xs lo hi)) (fun b ob q => Heap.get?_push_of_some _ q) (Nat.le_refl _) ?_, rfl, q _ (I.hok.fresh (Nat.le_refl _))⟩
  exact ⟨Nat.le_trans (cutV_length xs lo hi) hz, _, 0, (r.drop (HT.sIx xs.length 0 lo)).take (HT.sIx xs.length xs.length hi - HT.sIx xs.length 0 lo), Heap.get?_push_size _ rfl⟩
def flatV : V → Bool
  | .non => true
  | .bl _ => true
  | .int _ => true
  | .str _ => true
  | _ => false
def eqV : V → V → Bool
  | .non, .non => true
  | .bl a, .bl b => a == b
  | .bl a, .int b => (if a then 1 else 0) == b
  | .int a, .bl b => a == (if b then 1 else 0)
  | .int a, .int b => a == b
  | .str a, .str b => a == b
  | _, _ => false
theorem eqAt_V {A : Around} {s : Shared} {y x : V} {u v : Value} (ry : RelV y u) (rx : RelV x v) (fy : flatV y = true) (fx : flatV x = true) : SeqAt.EqAt A s u v (eqV y x) := by
  cases y with
  | non =>
    cases ry
    cases x with
    | non => cases rx; exact SeqAt.EqAt.same _
    | bl b => cases rx; exact SeqAt.EqAt.none_bool b
    | int b => obtain ⟨t, rfl⟩ := rx; exact SeqAt.EqAt.none_int b t
    | str b => obtain ⟨t, rfl⟩ := rx; exact SeqAt.EqAt.none_str b t
    | _ => exact absurd (show false = true from fx) Bool.false_ne_true
  | bl a =>
    cases ry
    cases x with
    | non => cases rx; exact SeqAt.EqAt.bool_none a
    | bl b => cases rx; exact SeqAt.EqAt.bool_bool a b
    | int b => obtain ⟨t, rfl⟩ := rx; exact SeqAt.EqAt.bool_int a b t
    | str b => obtain ⟨t, rfl⟩ := rx; exact SeqAt.EqAt.bool_str a b t
    | _ => exact absurd (show false = true from fx) Bool.false_ne_true
  | int a =>
    obtain ⟨t', rfl⟩ := ry
    cases x with
    | non => cases rx; exact SeqAt.EqAt.int_none a t'
    | bl b => cases rx; exact SeqAt.EqAt.int_bool a t' b
    | int b => obtain ⟨t, rfl⟩ := rx; exact SeqAt.EqAt.int_int a t' b t
    | str b => obtain ⟨t, rfl⟩ := rx; exact SeqAt.EqAt.int_str a t' b t
    | _ => exact absurd (show false = true from fx) Bool.false_ne_true
  | str a =>
    obtain ⟨t', rfl⟩ := ry
    cases x with
    | non => cases rx; exact SeqAt.EqAt.str_none a t'
    | bl b => cases rx; exact SeqAt.EqAt.str_bool a t' b
    | int b => obtain ⟨t, rfl⟩ := rx; exact SeqAt.EqAt.str_int a t' b t
    | str b => obtain ⟨t, rfl⟩ := rx; exact SeqAt.EqAt.str_str a t' b t
    | _ => exact absurd (show false = true from fx) Bool.false_ne_true
  | _ => exact absurd (show false = true from fy) Bool.false_ne_true
def eqU (x : V) (u : Value) : Bool := match u with
  | .none => eqV .non x
  | .bool b => eqV (.bl b) x
  | .int i _ => eqV (.int i) x
  | .str z _ => eqV (.str z) x
  | _ => false
theorem eqU_of {x y : V} {u : Value} (r : RelV y u) (f : flatV y = true) : eqU x u = eqV y x := by
  cases y with
  | non => cases r; rfl
  | bl b => cases r; rfl
  | int i => obtain ⟨t, rfl⟩ := r; rfl
  | str z => obtain ⟨t, rfl⟩ := r; rfl
  | _ => exact absurd (show false = true from f) Bool.false_ne_true
theorem any_eqU {x : V} : ∀ {xs : List V} {us : List Value}, Vals xs us → xs.all flatV = true → us.any (eqU x) = xs.any fun y => eqV y x
  | _, _, .nil, _ => rfl
  | y :: xs, u :: us, .cons r t, f => by
    rw [List.all_cons, Bool.and_eq_true] at f
    rw [List.any_cons, List.any_cons, eqU_of r f.1, any_eqU t f.2]
theorem mem_eqAt {A : Around} {s : Shared} {x : V} {v : Value} (rx : RelV x v) (fx : flatV x = true) : ∀ {xs : List V} {us : List Value}, Vals xs us → xs.all flatV = true → ∀ u ∈ us, SeqAt.EqAt A s u v (eqU x u)
  | _, _, .nil, _ => fun u hu => by cases hu
  | y :: xs, u :: us, .cons r t, f => fun u' hu => by
    rw [List.all_cons, Bool.and_eq_true] at f
    rcases List.mem_cons.mp hu with rfl | hu
    · rw [eqU_of r f.1]; exact eqAt_V r rx f.1 fx
    · exact mem_eqAt rx fx t f.2 u' hu
def inV (x : V) (xs : List V) : Bool := xs.any fun y => eqV y x
def rIn (K : PySem.W.Frag) (neg : Bool) : R2 := fun x y H Q => ∃ p xs, y = .ref p ∧ (SqL K H p xs ∨ SqT K H p xs) ∧ flatV x = true ∧ xs.all flatV = true ∧ Q (.bl (if neg then !inV x xs else inV x xs)) H
theorem op_in_seq : OpR X (compareOp .In) (rIn X.K false) := by
  intro pins s σ H x y v u Q I rx ry h
  obtain ⟨p, xs, rfl, hq, fx, fs, q⟩ := h
  cases ry
  rcases hq with hq | hq
  · obtain ⟨its, r, pl, hz⟩ := I.list hq
    refine SeqAt.in_listAt (eqU x) pl.isList (fun w hw => mem_eqAt rx fx r fs w (by simpa using hw)) ⟨.bl _, H, I, rfl, ?_⟩
    rw [show its.toArray.any (eqU x) = its.any (eqU x) by simp, any_eqU r fs]
    exact q
  · obtain ⟨its, r, pl, hz⟩ := I.tuple hq
    refine SeqAt.in_tupleAt (eqU x) pl (fun w hw => mem_eqAt rx fx r fs w (by simpa using hw)) ⟨.bl _, H, I, rfl, ?_⟩
    rw [show its.toArray.any (eqU x) = its.any (eqU x) by simp, any_eqU r fs]
    exact q
theorem call_len_seq : CallR X (.builtin "len") (fun xs H Q => ∃ p ys, xs = [.ref p] ∧ (SqL X.K H p ys ∨ SqT X.K H p ys) ∧ Q (.int ys.length) H) := by
  intro pins s σ H xs us Q I r h
  obtain ⟨p, ys, rfl, hq, q⟩ := h
  obtain ⟨u, rfl, rx⟩ := vals1 r
  cases rx
  have hn := line63
  rcases hq with hq | hq
  · obtain ⟨its, r', pl, hz⟩ := I.list hq
    have hlen := r'.length
    exact Calls.call_len_list pl.isList (by simp only [List.size_toArray] <;> omega) ⟨.int ys.length, H, I.tok _, ⟨s.toks + 1, by rw [List.size_toArray, hlen]⟩, q⟩
  · obtain ⟨its, r', pl, hz⟩ := I.tuple hq
    have hlen := r'.length
    exact len_tuple pl (by simp only [List.size_toArray] <;> omega) ⟨.int ys.length, H, I.tok _, ⟨s.toks + 1, by rw [List.size_toArray, hlen]⟩, q⟩
theorem call_len_str : CallR X (.builtin "len") (fun xs H Q => ∃ z, xs = [.str z] ∧ z.length ≤ sizeLine ∧ Q (.int z.length) H) := by
  intro pins s σ H xs us Q I r h
  obtain ⟨z, rfl, hz, q⟩ := h
  obtain ⟨u, rfl, t, rfl⟩ := vals1 r
  have hn := line63
  exact len_str (by omega) ⟨.int z.length, H, I.tok _, ⟨_, rfl⟩, q⟩
theorem CallR.or {f : Value} {r r' : List V → Hp → VK → Prop} (h : CallR X f r) (h' : CallR X f r') : CallR X f (fun xs H Q => r xs H Q ∨ r' xs H Q) := by
  intro pins s σ H xs us Q I rs q
  rcases q with q | q
  · exact h pins s σ H xs us Q I rs q
  · exact h' pins s σ H xs us Q I rs q
theorem call_tuple_of : CallR X (.type "tuple") (fun xs H Q => ∃ p ys, xs = [.ref p] ∧ ((SqL X.K H p ys ∧ ∀ l, H l = none → Q (.ref l) (upd H l (.tup ys))) ∨ (SqT X.K H p ys ∧ Q (.ref p) H))) := by
  intro pins s σ H xs us Q I r h
  obtain ⟨p, ys, rfl, h⟩ := h
  obtain ⟨u, rfl, rx⟩ := vals1 r
  cases rx
  rcases h with ⟨hq, q⟩ | ⟨hq, q⟩
  · obtain ⟨its, r', pl, hz⟩ := I.list hq
    have hlen := r'.length
    refine call_tuple_list pl.isList (fun h' kp => ?_) (by simp only [List.size_toArray] <;> omega)
    have I1 : Inv X pins σ H { s with heap := h' } := I.kept (t' := s.toks) kp
    have I2 : Inv X pins σ (upd H h'.objs.size (.tup ys)) { s with heap := h'.push { cls := .type "tuple", data := .seq its.toArray } } :=
      I1.laid (t' := s.toks) (fun b o e => Heap.get?_push_of_some _ e) (Nat.le_refl _) (show ObjOk X.prog X.w _ _ _ (.tup ys) from ⟨hz, its, r', IsTup.new _ _⟩)
    exact ⟨.ref h'.objs.size, _, I2, rfl, q _ (I1.hok.fresh (Nat.le_refl _))⟩
  · obtain ⟨its, r', pl, hz⟩ := I.tuple hq
    exact call_tuple_same pl ⟨.ref p, H, I, rfl, q⟩
def tyV (K : PySem.W.Frag) (T : String) (x : V) (H : Hp) : Prop := match x with
  | .str _ => T = "str"
  | .int _ => T = "int"
  | .ref p => (T = "list" ∧ ∃ xs, SqL K H p xs) ∨ (T = "tuple" ∧ ∃ o, K.lookup p = some o ∧ o.cls = .type "tuple" ∧ o.dict = none) ∨
      (T = "dict" ∧ ((∃ kvs, H p = some (.dK kvs)) ∨ ∃ kvs, H p = some (.dT kvs))) ∨ (T = "set" ∧ ∃ S n, H p = some (.set S n))
  | _ => False
theorem tyV_is {pins : List (Addr × Obj)} {σ : St} {H : Hp} {s : Shared} {T : String} {x : V} {v : Value} (I : Inv X pins σ H s) (r : RelV x v) (ty : tyV X.K T x H) :
    s.TypeIs v T ∧ ∀ a, v = .ref a → ∃ ob, s.heap.get? a = some ob ∧ ob.dict = none := by
  cases x with
  | str z =>
    obtain ⟨t, rfl⟩ := r
    cases (show T = "str" from ty)
    exact ⟨typeIs_str s z t, fun _ e => nomatch e⟩
  | int i =>
    obtain ⟨t, rfl⟩ := r
    cases (show T = "int" from ty)
    exact ⟨typeIs_int s i t, fun _ e => nomatch e⟩
  | ref p =>
    cases r
    rcases ty with ⟨rfl, xs, hq⟩ | ⟨rfl, o, hk, hc, hd⟩ | ⟨rfl, hk⟩ | ⟨rfl, S, n, hk⟩
    · obtain ⟨its, _, pl, _⟩ := I.list hq
      refine ⟨pl.isList.typeIs, fun a e => ?_⟩
      cases e
      obtain ⟨o, n, e, c, hd, _⟩ := pl
      exact ⟨o, e, hd⟩
    · refine ⟨⟨o, I.kIn p o hk, hc⟩, fun a e => ?_⟩
      cases e
      exact ⟨o, I.kIn _ o hk, hd⟩
    · have z : ∃ o, s.heap.get? p = some o ∧ o.ExactDict := by
        rcases hk with ⟨kvs, hk⟩ | ⟨kvs, hk⟩
        · obtain ⟨_, _, _, _, o, _, _, e, ex, _⟩ := I.hok p _ hk
          exact ⟨o, e, ex⟩
        · obtain ⟨_, _, _, _, o, _, _, e, ex, _⟩ := I.hok p _ hk
          exact ⟨o, e, ex⟩
      obtain ⟨o, e, ex⟩ := z
      refine ⟨⟨o, e, ex.1⟩, fun a e2 => ?_⟩
      cases e2
      exact ⟨o, e, ex.2.1⟩
    · obtain ⟨o, _, _, _, e, ex, _⟩ := I.hok p _ hk
      refine ⟨⟨o, e, ex.1⟩, fun a e2 => ?_⟩
      cases e2
      exact ⟨o, e, ex.2.1⟩
  | _ => exact False.elim ty
def tBM (K : PySem.W.Frag) (T : String) (r : V → List V → Hp → VK → Prop) (to : TE) (t : TA) : TE := fun σ H Q => to σ H fun x H1 => tyV K T x H1 ∧ t σ H1 fun xs H2 => r x xs H2 Q
variable {o e : Expr} {es : List Expr} {to : TE} {t : TA} {name : Str} {apos cpos : Pos} {T id : String} {r : V → List V → Hp → VK → Prop}
theorem pe_bm (pa : PlainAttrs T) (slot : Slot T name id) (hty : typeOf (.builtin id) = pure (.type "method_descriptor")) (hm : MtR X id r) (ho : PE X o to) (ha : PA X (e :: es) t)
    (hbase : attributeBase o name X.env (eval o X.env) = eval o X.env := by rfl)
    (hfew : ((backTo cpos (starEach (e :: es) X.env)).all (fun x => !x.1) && (backToKw cpos (keywordEach [] X.env)).all (fun x => x.1.isSome)
      && decide ((e :: es).length + ([] : List Keyword).length + (if ([] : List Keyword).isEmpty then 0 else 1) < 30)) = true := by rfl)
    (hline : (apos.endLine == cpos.line) = true := by rfl) (hs : starEach (e :: es) X.env = (false, eval e X.env) :: starEach es X.env := by rfl) (hplain : (backTo cpos (starEach es X.env)).any (·.1) = false := by rfl) :
    PE X (.Call (.Attribute o name apos) (e :: es) [] cpos) (tBM X.K T r to t) := by
  intro pins s σ H Q I h
  refine wpAny_Call_method_late hbase hfew hline rfl (thn (ho pins s σ H _ I h) fun v s1 ⟨x, H1, I1, r1, ty, q1⟩ => ?_)
  obtain ⟨h1, h2⟩ := tyV_is I1 r1 ty
  refine ⟨T, id, pa, slot, hty, h1, h2, ?_⟩
  have hA := ha cpos pins s1 σ H1 _ I1 q1
  rw [hs] at hA ⊢
  refine Calls.callWith_builtin (by show (false || (backTo cpos (starEach es X.env)).any (·.1)) = false; rw [hplain] <;> rfl) (Calls.evalArgs_plain ?_)
  exact thn hA fun us s2 ⟨vs, H2, I2, r2, q2⟩ => hm pins s2 σ H2 x vs v us Q I2 r1 r2 q2
end
end L2
namespace L2
open PySem PySem.Spec PyProof.Rows
def MtM (X : Cx) (id : String) (r : V → List V → Hp → VK → Prop) : Prop :=
  ∀ (pins : List (Addr × Obj)) (s : Shared) (σ : St) (H : Hp) (x : V) (xs : List V) (v : Value) (us : List Value) (Q : VK), Inv X pins σ H s → RelV x v → Vals xs us → r x xs H Q →
    wpAny (model X.prog X.w) X.A (call (.builtin id) (v :: us)) (EP X pins σ Q) X.xe s
theorem Vals.one : ∀ {x : V} {us : List Value}, Vals [x] us → ∃ u, us = [u] ∧ RelV x u
  | _, _, .cons r .nil => ⟨_, rfl, r⟩
theorem Vals.two : ∀ {x y : V} {us : List Value}, Vals [x, y] us → ∃ u v, us = [u, v] ∧ RelV x u ∧ RelV y v
  | _, _, _, .cons r (.cons q .nil) => ⟨_, _, rfl, r, q⟩
theorem Vals.zero : ∀ {us : List Value}, Vals [] us → us = []
  | _, .nil => rfl
theorem Vals.dropLast {xs : List V} {us : List Value} (h : Vals xs us) : Vals xs.dropLast us.dropLast := by
  induction h with
  | nil => exact .nil
  | cons r t ih =>
    cases t with
    | nil => exact .nil
    | cons q t' => exact .cons r ih
theorem Vals.reverse {xs : List V} {us : List Value} (h : Vals xs us) : Vals xs.reverse us.reverse := by
  induction h with
  | nil => exact .nil
  | cons r t ih => rw [List.reverse_cons, List.reverse_cons]; exact Vals.append ih (.cons r .nil)
theorem Vals.rep {xs : List V} {us : List Value} (h : Vals xs us) : ∀ k : Nat, Vals (List.replicate k xs).flatten (List.replicate k us).flatten
  | 0 => .nil
  | k + 1 => by
    rw [List.replicate_succ, List.replicate_succ, List.flatten_cons, List.flatten_cons]
    exact Vals.append h (Vals.rep h k)
theorem foldl_rep (its : List Value) : ∀ (k : Nat) (acc : List Value),
    List.foldl (fun x1 x2 => x1 ++ x2) acc.toArray (List.replicate k its.toArray) = (acc ++ (List.replicate k its).flatten).toArray
  | 0, acc => by simp
  | k + 1, acc => by
    have e : acc.toArray ++ its.toArray = (acc ++ its).toArray := by simp
    have e2 : (acc ++ its) ++ (List.replicate k its).flatten = acc ++ (List.replicate (k + 1) its).flatten := by
      rw [List.replicate_succ, List.flatten_cons, List.append_assoc]
    rw [← e2, ← foldl_rep its k (acc ++ its), ← e, List.replicate_succ, List.foldl_cons]
section
variable {X : Cx} {pins : List (Addr × Obj)} {σ : St} {H : Hp} {s : Shared} {l b : Addr} {xs ys zs : List V}
theorem Inv.lset {its its' : List Value} {n : Nat} {f : Array Value → Array Value} {t' : Nat} (I : Inv X pins σ H s) (hH : H l = some (.lst xs))
    (e : s.heap.get? l = some { cls := .type "list", data := .seq its.toArray n }) (hf : f its.toArray = its'.toArray) (hv : Vals ys its') (hz : ys.length ≤ sizeLine) :
    Inv X pins σ (upd H l (.lst ys)) { s with heap := s.heap.update l (Obj.mapSeq f), toks := t' } := by
  have q := PySem.IsL.update e f
  rw [hf] at q
  refine I.write (x := l) (e := l) (by rw [hH]; exact trivial) (.inl rfl) (fun b' u hb hu => (Heap.get?_update_other s.heap (Obj.mapSeq f) (Ne.symm hb)).trans hu) ⟨_, q⟩ ?_
  exact ⟨hz, its', _, hv, q⟩
theorem Inv.lnew {its : List Value} {t' : Nat} (I : Inv X pins σ H s) (hv : Vals ys its) (hz : ys.length ≤ sizeLine) :
    Inv X pins σ (upd H s.heap.objs.size (.lst ys)) { s with heap := s.heap.push { cls := .type "list", data := .seq its.toArray }, toks := t' } :=
  I.laid (fun _ _ q => Heap.get?_push_of_some _ q) (Nat.le_refl _) ⟨hz, its, 0, hv, Heap.get?_push_size _ rfl⟩
theorem Inv.fresh (I : Inv X pins σ H s) : H s.heap.objs.size = none := I.hok.fresh (Nat.le_refl _)
theorem Inv.lstM (I : Inv X pins σ H s) (hH : H l = some (.lst xs)) : xs.length ≤ sizeLine ∧ ∃ (its : List Value) (n : Nat), Vals xs its ∧ xs.length = its.length ∧ s.heap.get? l = some { cls := .type "list", data := .seq its.toArray n } := by
  obtain ⟨z, its, n, r, e⟩ := I.hok l _ hH
  exact ⟨z, its, n, r, r.length, e⟩
theorem notLongL {n : Nat} (h : n ≤ sizeLine) : Builtin.List.listTooLong n = false := by
  unfold Builtin.List.listTooLong
  exact decide_eq_false (by omega)
end
section
variable {X : Cx}
def rAppend : V → List V → Hp → VK → Prop := fun x vs H Q => ∃ l xs y, x = .ref l ∧ vs = [y] ∧ H l = some (.lst xs) ∧ xs.length < sizeLine ∧ Q .non (upd H l (.lst (xs ++ [y])))
theorem mt_append : MtM X "list.append" rAppend := by
  intro pins s σ H x vs v us Q I rx rv h
  obtain ⟨l, xs, y, rfl, rfl, hH, hz, q⟩ := h
  cases rx
  obtain ⟨u, rfl, ru⟩ := rv.one
  obtain ⟨z, its, n, r, hl, e⟩ := I.lstM hH
  refine call_meets F.slot_list_append ⟨_, e, rfl⟩ F.entry_list_append (F.args_list_append_2 _ _) (PySem.list_append l its.toArray n u (by rw [List.size_toArray]; omega)) ⟨e, ?_⟩
  refine ⟨.non, _, I.lset (its' := its ++ [u]) hH e (by simp) (r.append (.cons ru .nil)) ?_, rfl, q⟩
  rw [List.length_append, List.length_singleton]
  omega
def rExtend : V → List V → Hp → VK → Prop := fun x vs H Q => ∃ l b xs zs, x = .ref l ∧ vs = [.ref b] ∧ H l = some (.lst xs) ∧ H b = some (.lst zs) ∧ xs.length + zs.length ≤ sizeLine ∧ Q .non (upd H l (.lst (xs ++ zs)))
theorem mt_extend : MtM X "list.extend" rExtend := by
  intro pins s σ H x vs v us Q I rx rv h
  obtain ⟨l, b, xs, zs, rfl, rfl, hH, hB, hz, q⟩ := h
  cases rx
  obtain ⟨u, rfl, ru⟩ := rv.one
  cases ru
  obtain ⟨z, its, n, r, hl, e⟩ := I.lstM hH
  obtain ⟨z2, its2, n2, r2, hl2, e2⟩ := I.lstM hB
  have hsz : its.toArray.size + its2.toArray.size ≤ sizeLine := by rw [List.size_toArray, List.size_toArray]; omega
  have hlong : ¬ (!its.toArray.isEmpty && Builtin.List.listTooLong (its.toArray.size + its2.toArray.size)) = true := by
    rw [notLongL hsz, Bool.and_false]
    exact Bool.false_ne_true
  refine call_meets F.slot_list_extend ⟨_, e, rfl⟩ F.entry_list_extend (F.args_list_extend_2 _ _)
    (AutoSeq1.list_extend_list_list_0 l its.toArray n b its2.toArray n2 hlong (by rw [List.size_toArray]; omega) (by omega)) ⟨e, e2, ?_⟩
  refine ⟨.non, _, I.lset (its' := its ++ its2) hH e (by simp) (r.append r2) ?_, rfl, q⟩
  rw [List.length_append]
  omega
def rCat : R2 := fun x y H Q => ∃ l b xs zs, x = .ref l ∧ y = .ref b ∧ H l = some (.lst xs) ∧ H b = some (.lst zs) ∧ xs.length + zs.length ≤ sizeLine ∧ ∀ p, H p = none → Q (.ref p) (upd H p (.lst (xs ++ zs)))
theorem op_cat : OpR X (binaryOp .Add) rCat := by
  intro pins s σ H x y v u Q I rx ry h
  obtain ⟨l, b, xs, zs, rfl, rfl, hH, hB, hz, q⟩ := h
  cases rx
  cases ry
  obtain ⟨z, its, n, r, hl, e⟩ := I.lstM hH
  obtain ⟨z2, its2, n2, r2, hl2, e2⟩ := I.lstM hB
  refine PySem.P.add_list e e2 ?_ (by rw [List.size_toArray, List.size_toArray]; omega)
  have ea : its.toArray ++ its2.toArray = (its ++ its2).toArray := by simp
  rw [ea]
  exact ⟨.ref _, _, I.lnew (t' := s.toks) (r.append r2) (by rw [List.length_append]; omega), rfl, q _ I.fresh⟩
def rRep : R2 := fun x y H Q => ∃ l k xs, x = .ref l ∧ y = .int k ∧ H l = some (.lst xs) ∧ -(2 ^ 63) ≤ k ∧ k < 2 ^ 63 ∧ xs.length * k.toNat ≤ sizeLine ∧
  ∀ p, H p = none → Q (.ref p) (upd H p (.lst (List.replicate k.toNat xs).flatten))
theorem len_rep {α : Type} (xs : List α) (k : Nat) : (List.replicate k xs).flatten.length = k * xs.length := by
  induction k with
  | zero => simp
  | succ k ih => rw [List.replicate_succ, List.flatten_cons, List.length_append, ih, Nat.succ_mul, Nat.add_comm]
theorem op_rep : OpR X (binaryOp .Mult) rRep := by
  intro pins s σ H x y v u Q I rx ry h
  obtain ⟨l, k, xs, rfl, rfl, hH, h1, h2, hz, q⟩ := h
  cases rx
  obtain ⟨t, rfl⟩ := ry
  obtain ⟨z, its, n, r, hl, e⟩ := I.lstM hH
  have hlen : its.toArray.size * k.toNat ≤ sizeLine := by rw [List.size_toArray, ← hl]; exact hz
  have hcap : ¬ its.toArray.size * k.toNat > (2 ^ 63 - 1) / 8 := by
    have : (sizeLine : Nat) ≤ (2 ^ 63 - 1) / 8 := by decide
    omega
  have hfit : ¬ (!Builtin.List.listFitsIndex k) = true := by
    rw [fitsIndex_both h1 h2]
    exact Bool.false_ne_true
  have hlong : ¬ Builtin.List.listTooLong (its.toArray.size * k.toNat) = true := by
    rw [notLongL hlen]
    exact Bool.false_ne_true
  have hnew : List.foldl (fun x1 x2 => x1 ++ x2) #[] (List.replicate (if its.toArray.isEmpty = true then 0 else k.toNat) its.toArray) = (List.replicate k.toNat its).flatten.toArray := by
    have f0 : ∀ m : Nat, List.foldl (fun x1 x2 => x1 ++ x2) #[] (List.replicate m its.toArray) = (List.replicate m its).flatten.toArray := fun m => by
      have := foldl_rep its m []
      rw [List.nil_append] at this
      exact this
    rw [f0]
    cases its with
    | nil => simp
    | cons a r' => rw [if_neg (by simp)]
  refine wpAny_binaryOp_repeat_ref (T := "list") (U := "int") (by decide) ⟨_, e, rfl⟩ (fun s' => typeIs_int s' k t) noFill_list_mul F.fills_int_mul F.slot_int_rmul repeat_list F.slot_int_index.lookup
    (call_meets F.slot_int_rmul (typeIs_int s k t) F.entry_int_rmul (F.args_int_rmul_2 _ _) (int___rmul___int_list k t l its.toArray n)
      ⟨e, rfl, ⟨_, e, rfl⟩, call_meets F.slot_list_mul ⟨_, e, rfl⟩ F.entry_list_mul (F.args_list_mul_2 _ _) (AutoListH.list___mul___list_int_3 l its.toArray n k t hfit hcap hlong) ⟨e, ?_⟩⟩)
  rw [hnew]
  exact ⟨.ref _, _, I.lnew (t' := s.toks) (r.rep k.toNat) (by rw [len_rep, Nat.mul_comm]; exact hz), rfl, q _ I.fresh⟩
end
section
variable {prog : Program} {w : World} {A : Around} {E : Value → Shared → Prop} {s : Shared}
set_option maxRecDepth 100000 in
end
section
variable {X : Cx}
end
end L2
namespace L2
open PySem PySem.Spec PyProof.Rows
theorem Vals.ints : ∀ {ns : List Int} {us : List Value}, Vals (ns.map V.int) us → IntsAre us ns
  | [], us, h => by
    rw [List.map_nil] at h
    cases h
    exact IntsAre.nil
  | n :: ns, us, h => by
    rw [List.map_cons] at h
    cases h with
    | cons r t =>
      obtain ⟨k, rfl⟩ := r
      exact IntsAre.cons n k (Vals.ints t)
theorem vals_of_ints : ∀ {us : List Value} {ns : List Int}, IntsAre us ns → Vals (ns.map V.int) us
  | _, _, .nil => by rw [List.map_nil]; exact Paired.nil
  | _, _, .cons n t h => by rw [List.map_cons]; exact Paired.cons (show RelV (V.int n) (Value.int n t) from ⟨t, rfl⟩) (vals_of_ints h)
theorem Vals.strs : ∀ {xs : List Str} {us : List Value}, Vals (xs.map V.str) us → StrsAre us xs
  | [], us, h => by
    rw [List.map_nil] at h
    cases h
    exact StrsAre.nil
  | x :: xs, us, h => by
    rw [List.map_cons] at h
    cases h with
    | cons r t =>
      obtain ⟨k, rfl⟩ := r
      exact StrsAre.cons x k (Vals.strs t)
theorem Vals.bls : ∀ {bs : List Bool} {us : List Value}, Vals (bs.map V.bl) us → us = bs.map Value.bool
  | [], us, h => by
    rw [List.map_nil] at h
    cases h
    rfl
  | b :: bs, us, h => by
    rw [List.map_cons] at h
    cases h with
    | cons r t =>
      cases r
      rw [Vals.bls t, List.map_cons]
theorem Vals.ref1 {a : Addr} {us : List Value} (r : Vals [V.ref a] us) : us = [Value.ref a] := by
  cases r with
  | cons r t =>
    cases t
    cases r
    rfl
section
variable {prog : Program} {w : World} {A : Around} {E : Value → Shared → Prop} {s : Shared} {l : Addr} {its : List Value} {ns : List Int} {Q : Value → Shared → Prop}
end
section
variable {X : Cx}
end
section
variable {X : Cx}
def rIndex (K : PySem.W.Frag) : V → List V → Hp → VK → Prop := fun x xs H Q => ∃ (a : Addr) (ys : List V) (y : V) (j : Nat) (z : V), x = V.ref a ∧ xs = [y] ∧ SqL K H a ys ∧ flatV y = true ∧ ys.all flatV = true ∧ ys[j]? = some z ∧ eqV z y = true ∧
  (∀ (m : Nat) (z' : V), m < j → ys[m]? = some z' → eqV z' y = false) ∧ Q (.int (j : Nat)) H
theorem flat_at {ys : List V} (f : ys.all flatV = true) {j : Nat} {z : V} (h : ys[j]? = some z) : flatV z = true := List.all_eq_true.mp f z (List.mem_of_getElem? h)
theorem mt_index : MtR X "list.index" (rIndex X.K) := by
  intro pins s σ H x xs v us Q I rx rxs h
  obtain ⟨a, ys, y, j, z, rfl, rfl, hs, fy, fys, hz, hzj, hno, q⟩ := h
  cases rx
  cases rxs with
  | cons ry rt =>
    rename_i uy ut
    cases rt
    obtain ⟨its, rv, ⟨⟨cls, dd, data, sl⟩, n, ho, hc, hdn, hd⟩, hlen⟩ := I.list hs
    simp only at hc hd
    subst hc hd
    obtain ⟨u, hu, ru⟩ := rv.get hz
    obtain ⟨hjl, hje⟩ := List.getElem?_eq_some_iff.mp hu
    have hvl := rv.length
    have hj : j < its.toArray.size := by simpa using hjl
    have hsl := sizeLine_eq
    refine call_meets PySem.F.slot_list_index ⟨_, ho, rfl⟩ PySem.F.entry_list_index (PySem.F.args_list_index_2 _ _)
      (SeqAt.list_indexAt a its.toArray n dd sl uy (eqU y) j hj (by omega) ?_ ?_) ⟨ho, fun u' hu' => mem_eqAt ry fy rv fys u' (by simpa using hu'), ?_⟩
    · have e1 : its.toArray[j] = u := by simpa using hje
      rw [e1, eqU_of ru (flat_at fys hz)]
      exact hzj
    · intro m hm hmj
      have hml : m < its.length := by simpa using hm
      have hmy : m < ys.length := by omega
      have hy' : ys[m]? = some ys[m] := List.getElem?_eq_getElem hmy
      obtain ⟨u2, hu2, ru2⟩ := rv.get hy'
      obtain ⟨_, hme⟩ := List.getElem?_eq_some_iff.mp hu2
      have e1 : its.toArray[m] = u2 := by simpa using hme
      rw [e1, eqU_of ru2 (flat_at fys hy')]
      exact hno m _ hmj hy'
    · exact ⟨.int (j : Nat), H, I.tok _, ⟨_, rfl⟩, q⟩
end
section
variable {X : Cx}
end
theorem iter_any {prog : Program} {w : World} {A : Around} {E : Value → Shared → Prop} {s : Shared} {l : Addr} {items : Array Value} {Q : Value → Shared → Prop} (hl : s.heap.IsList l items)
    (h : ∀ s₂ : Shared, s₂ = { s with heap := s.heap.push { cls := .type "list_iterator", data := .fields #[.ref l, .int 0 0] } } →
      (s₂.heap.IsListIter s.heap.objs.size l 0 ∧ s₂.heap.IsList l items) → l ≠ s.heap.objs.size → Q (.ref s.heap.objs.size) s₂) : wpAny (model prog w) A (pyIter (.ref l)) Q E s := by
  have hlt : l < s.heap.objs.size := by obtain ⟨_, e, _⟩ := hl; exact Heap.lt_size e
  exact wpAny_pyIter_list hl (h _ rfl ⟨⟨_, Heap.get?_push_size _ rfl, rfl, rfl⟩, hl.push _⟩ (Nat.ne_of_lt hlt))
theorem truth_bools {prog : Program} {w : World} {A : Around} {bs : List Bool} {its : List Value} (e : its = bs.map Value.bool) :
    TruthOf prog w A (fun i v => its.toArray[i]? = some v) (fun i => bs.getD i false) := fun i v s Q E hv hq => by
  have hv' : its[i]? = some v := by simpa using hv
  rw [e, List.getElem?_map] at hv'
  obtain ⟨b, hb, rfl⟩ := Option.map_eq_some_iff.mp hv'
  have hg : bs.getD i false = b := by rw [List.getD_eq_getElem?_getD, hb] <;> rfl
  have hq' : Q (bs.getD i false) s := hq
  rw [hg] at hq'
  exact wpAny_truthy_bool hq'
theorem any_range : ∀ bs : List Bool, (List.range bs.length).any (fun i => bs.getD i false) = bs.any id
  | [] => rfl
  | b :: bs => by
    rw [List.length_cons, List.range_succ_eq_map, List.any_cons, List.any_map, List.any_cons, ← any_range bs]
    all_goals rfl
theorem all_range : ∀ bs : List Bool, (List.range bs.length).all (fun i => bs.getD i false) = bs.all id
  | [] => rfl
  | b :: bs => by
    rw [List.length_cons, List.range_succ_eq_map, List.all_cons, List.all_map, List.all_cons, ← all_range bs]
    all_goals rfl
section
variable {X : Cx}
def rAll (K : PySem.W.Frag) : List V → Hp → VK → Prop := fun vs H Q => ∃ (a : Addr) (bs : List Bool), vs = [V.ref a] ∧ SqL K H a (bs.map V.bl) ∧ Q (.bl (bs.all id)) H
theorem cr_all (hc : X.calm = true) : CallR X (.builtin "all") (rAll X.K) := by
  intro pins s σ H vs us Q I r h
  obtain ⟨a, bs, rfl, hs, q⟩ := h
  obtain ⟨its, rv, hl, _⟩ := I.list hs
  rw [Vals.ref1 r]
  have hb := rv.bls
  refine call_all_walk (iter_any hl.isList fun s₂ e2 st hne => ?_)
  subst e2
  refine ⟨_, _, _, _, _, _, _, rfl, Walks.list (A := X.A.in1) (I.ok.hd hc) _ a hne its.toArray, st, truth_bools hb, fun h' tk hk => ?_⟩
  refine ⟨.bl _, H, I.kept fun b o eo => hk b o (fun hmem => ?_) (Heap.get?_push_of_some _ eo), ?_, q⟩
  · rcases List.mem_cons.mp hmem with e1 | hmem
    · exact absurd (e1 ▸ Heap.lt_size eo) (Nat.lt_irrefl _)
    · cases hmem
  · show Value.bool _ = Value.bool _
    rw [← all_range, hb, List.size_toArray, List.length_map]
end
mutual
inductive Dp (K : PySem.W.Frag) (H : Hp) : V → PyData → Prop
  | non : Dp K H .non .none
  | bl (b : Bool) : Dp K H (.bl b) (.bool b)
  | int (i : Int) : Dp K H (.int i) (.int i)
  | str (x : Str) : Dp K H (.str x) (.str x)
  | lst {a : Addr} {xs : List V} {ds : List PyData} : SqL K H a xs → DpAll K H xs ds → Dp K H (.ref a) (.list ds)
  | tup {a : Addr} {xs : List V} {ds : List PyData} : SqT K H a xs → DpAll K H xs ds → Dp K H (.ref a) (.tuple ds)
inductive DpAll (K : PySem.W.Frag) (H : Hp) : List V → List PyData → Prop
  | nil : DpAll K H [] []
  | cons {v : V} {vs : List V} {d : PyData} {ds : List PyData} : Dp K H v d → DpAll K H vs ds → DpAll K H (v :: vs) (d :: ds)
end
section
variable {X : Cx} {pins : List (Addr × Obj)} {σ : St} {H : Hp} {s : Shared}
mutual
theorem Dp.reads (I : Inv X pins σ H s) : ∀ (d : PyData) (v : V) (u : Value), Dp X.K H v d → RelV v u → ∃ as, Reads s.heap u d as
  | .none, _, _, h, r => by
    cases h
    cases r
    exact ⟨_, Reads.none⟩
  | .bool b, _, _, h, r => by
    cases h
    cases r
    exact ⟨_, Reads.bool b⟩
  | .int i, _, _, h, r => by
    cases h
    obtain ⟨t, rfl⟩ := r
    exact ⟨_, Reads.int i t⟩
  | .str x, _, _, h, r => by
    cases h
    obtain ⟨t, rfl⟩ := r
    exact ⟨_, Reads.str x t⟩
  | .list ds, _, _, h, r => by
    cases h with
    | lst hs ha =>
      cases r
      obtain ⟨its, rv, ⟨o, n, ho, hc, _, hd⟩, _⟩ := I.list hs
      obtain ⟨as, hr⟩ := Dp.readsAll I ds _ its ha rv
      exact ⟨_, Reads.list ho hc hd hr⟩
  | .tuple ds, _, _, h, r => by
    cases h with
    | tup hs ha =>
      cases r
      obtain ⟨its, rv, ⟨o, ho, hc, n, hd⟩, _⟩ := I.tuple hs
      obtain ⟨as, hr⟩ := Dp.readsAll I ds _ its ha rv
      exact ⟨_, Reads.tuple ho hc hd hr⟩
  | .dict _, _, _, h, _ => by cases h
theorem Dp.readsAll (I : Inv X pins σ H s) : ∀ (ds : List PyData) (vs : List V) (us : List Value), DpAll X.K H vs ds → Vals vs us → ∃ as, ReadsAll s.heap us ds as
  | [], _, _, h, r => by
    cases h
    cases r
    exact ⟨_, ReadsAll.nil⟩
  | d :: ds, _, _, h, r => by
    cases h with
    | cons h1 h2 =>
      cases r with
      | cons r1 r2 =>
        obtain ⟨as, q1⟩ := Dp.reads I d _ _ h1 r1
        obtain ⟨bs, q2⟩ := Dp.readsAll I ds _ _ h2 r2
        exact ⟨_, ReadsAll.cons q1 q2⟩
end
end
section
variable {X : Cx}
def rEqD (K : PySem.W.Frag) : R2 := fun x y H Q => ∃ d e, Dp K H x d ∧ Dp K H y e ∧ SeqAt.shaped d = true ∧ SeqAt.shaped e = true ∧ Q (.bl (PyData.eqv d e)) H
def rNeD (K : PySem.W.Frag) : R2 := fun x y H Q => ∃ d e, Dp K H x d ∧ Dp K H y e ∧ SeqAt.shaped d = true ∧ SeqAt.shaped e = true ∧ Q (.bl (!PyData.eqv d e)) H
theorem op_eqD (hu : X.A.units + 64 < cLine) : OpR X (compareOp .Eq) (rEqD X.K) := by
  intro pins s σ H x y v u Q I rx ry h
  obtain ⟨d, e, hd, he, sd, se, q⟩ := h
  obtain ⟨as, r1⟩ := Dp.reads I d x v hd rx
  obtain ⟨bs, r2⟩ := Dp.reads I e y u he ry
  exact SeqAt.compareEq_shaped r1 r2 sd se hu ⟨.bl _, H, I, rfl, q⟩
theorem op_neD (hu : X.A.units + 64 < cLine) : OpR X (compareOp .NotEq) (rNeD X.K) := by
  intro pins s σ H x y v u Q I rx ry h
  obtain ⟨d, e, hd, he, sd, se, q⟩ := h
  obtain ⟨as, r1⟩ := Dp.reads I d x v hd rx
  obtain ⟨bs, r2⟩ := Dp.reads I e y u he ry
  exact SeqAt.compareNe_shaped r1 r2 sd se hu ⟨.bl _, H, I, rfl, q⟩
end
end L2
namespace L2
open PySem PySem.Spec PyProof.Rows
abbrev CellAt (h : Heap) (c : Addr) (v : Option Value) : Prop := h.IsCell c v
def relS (scope sc : Scope) : Scope :=
  { scope with names := scope.names.map fun (n, k) => if (k == .free && sc.kind == .function && sc.names.lookup n == some .cell) then (n, .cell) else (n, k) }
def cloFrom (cells : List (Str × Addr)) : List (Str × NameKind) → List (Str × Addr) → List (Str × Addr)
  | [], acc => acc
  | (n, k) :: r, acc => if k == .free then cloFrom cells r ((n, (cells.lookup n).getD 0) :: acc) else cloFrom cells r acc
theorem closure_loop (env : Env) (f : Str × NameKind → List (Str × Addr) → Sem (ForInStep (List (Str × Addr))))
    (hf : ∀ n k c, f (n, k) c = if k == .free then (do let a ← cellOf env n; pure (.yield ((n, a) :: c))) else pure (.yield c)) :
    ∀ (names : List (Str × NameKind)) (acc : List (Str × Addr)), (∀ y ∈ names, y.2 = .free → ∃ c, env.cells.lookup y.1 = some c) → forIn names acc f = pure (cloFrom env.cells names acc)
  | [], acc, _ => by rw [List.forIn_nil]; rfl
  | (n, k) :: r, acc, h => by
    rw [List.forIn_cons, hf]
    have ih := fun acc => closure_loop env f hf r acc fun y hy => h y (List.mem_cons_of_mem _ hy)
    unfold cloFrom
    by_cases hk : (k == NameKind.free) = true
    · rw [if_pos hk, if_pos hk]
      obtain ⟨c, hc⟩ := h (n, k) List.mem_cons_self (by simpa using hk)
      have e : cellOf env n = pure c := by unfold cellOf; rw [hc]
      rw [e]
      have e2 : (env.cells.lookup n).getD 0 = c := by rw [hc]; rfl
      rw [e2]
      exact ih _
    · rw [if_neg hk, if_neg hk]
      exact ih _
theorem closure_ok {scope : Scope} {env : Env} (h : ∀ y ∈ scope.names, y.2 = .free → ∃ c, env.cells.lookup y.1 = some c) : closureFor scope env = pure (cloFrom env.cells scope.names []) := by
  simp only [closureFor]
  rw [closure_loop env _ (fun n k c => rfl) scope.names [] h]
  rfl
theorem mem_lookup {α : Type} : ∀ {l : List (Str × α)} {n : Str} {c : α}, (n, c) ∈ l → ∃ c', l.lookup n = some c'
  | (k, v) :: r, n, c, h => by
    rw [List.lookup_cons]
    cases hb : n == k with
    | true => exact ⟨_, rfl⟩
    | false =>
      rcases List.mem_cons.mp h with e | h
      · cases e; simp at hb
      · exact mem_lookup h
theorem cloFrom_mem {cells : List (Str × Addr)} : ∀ {names : List (Str × NameKind)} {acc : List (Str × Addr)} {n : Str} {c : Addr}, (n, c) ∈ cloFrom cells names acc → (n, c) ∈ acc ∨ ((n, .free) ∈ names ∧ c = (cells.lookup n).getD 0)
  | [], _, _, _, h => .inl h
  | (m, k) :: r, acc, n, c, h => by
    unfold cloFrom at h
    split at h
    · rename_i hk
      have hk : k = .free := by simpa using hk
      rcases cloFrom_mem h with h | ⟨h1, h2⟩
      · rcases List.mem_cons.mp h with e | h
        · cases e; exact .inr ⟨hk ▸ List.mem_cons_self, rfl⟩
        · exact .inl h
      · exact .inr ⟨List.mem_cons_of_mem _ h1, h2⟩
    · rcases cloFrom_mem h with h | ⟨h1, h2⟩
      · exact .inl h
      · exact .inr ⟨List.mem_cons_of_mem _ h1, h2⟩
theorem cloFrom_acc {cells : List (Str × Addr)} : ∀ {names : List (Str × NameKind)} {acc : List (Str × Addr)} {p : Str × Addr}, p ∈ acc → p ∈ cloFrom cells names acc
  | [], _, _, h => h
  | (m, k) :: r, acc, p, h => by
    unfold cloFrom
    split
    · exact cloFrom_acc (List.mem_cons_of_mem _ h)
    · exact cloFrom_acc h
theorem cloFrom_has {cells : List (Str × Addr)} : ∀ {names : List (Str × NameKind)} {acc : List (Str × Addr)} {n : Str}, (n, .free) ∈ names → (n, (cells.lookup n).getD 0) ∈ cloFrom cells names acc
  | (m, k) :: r, acc, n, h => by
    unfold cloFrom
    rcases List.mem_cons.mp h with e | h
    · cases e
      exact cloFrom_acc List.mem_cons_self
    · split
      · exact cloFrom_has h
      · exact cloFrom_has h
theorem cells_mem : ∀ {names : List (Str × NameKind)} {h : Heap} {acc : List (Str × Addr)} {x : Str} {c : Addr}, (x, c) ∈ cellsFrom h.objs.size names acc →
    (x, c) ∈ acc ∨ ((x, .cell) ∈ names ∧ h.objs.size ≤ c ∧ CellAt (pushCells h names) c none)
  | [], _, _, _, _, h => .inl h
  | (n, k) :: r, h, acc, x, c, hm => by
    unfold cellsFrom at hm
    unfold pushCells
    split at hm
    · rename_i hk
      rw [if_pos hk]
      have hk : k = .cell := by simpa using hk
      rw [← Heap.size_push h { cls := .type "cell", data := .cell none }] at hm
      rcases cells_mem hm with hm | ⟨h1, h2, h3⟩
      · rcases List.mem_cons.mp hm with e | hm
        · cases e
          exact .inr ⟨hk ▸ List.mem_cons_self, Nat.le_refl _, _, pushCells_keeps r _ _ _ (Heap.get?_push_size _ rfl), rfl⟩
        · exact .inl hm
      · rw [Heap.size_push] at h2
        exact .inr ⟨List.mem_cons_of_mem _ h1, Nat.le_of_succ_le h2, h3⟩
    · rename_i hk
      rw [if_neg hk]
      rcases cells_mem hm with hm | ⟨h1, h2, h3⟩
      · exact .inl hm
      · exact .inr ⟨List.mem_cons_of_mem _ h1, h2, h3⟩
theorem cells_acc : ∀ {names : List (Str × NameKind)} {n : Nat} {acc : List (Str × Addr)} {p : Str × Addr}, p ∈ acc → p ∈ cellsFrom n names acc
  | [], _, _, _, h => h
  | (m, k) :: r, n, acc, p, h => by
    unfold cellsFrom
    split
    · exact cells_acc (List.mem_cons_of_mem _ h)
    · exact cells_acc h
theorem cells_has : ∀ {names : List (Str × NameKind)} {n : Nat} {acc : List (Str × Addr)} {x : Str}, (x, .cell) ∈ names → ∃ c, (x, c) ∈ cellsFrom n names acc
  | (m, k) :: r, n, acc, x, h => by
    unfold cellsFrom
    rcases List.mem_cons.mp h with e | h
    · cases e
      exact ⟨n, cells_acc List.mem_cons_self⟩
    · split
      · exact cells_has h
      · exact cells_has h
theorem cells_inj : ∀ {names : List (Str × NameKind)} {h : Heap} {acc : List (Str × Addr)} {x y : Str} {c : Addr}, (∀ p ∈ acc, p.2 < h.objs.size) → (∀ x y c, (x, c) ∈ acc → (y, c) ∈ acc → x = y) →
    (x, c) ∈ cellsFrom h.objs.size names acc → (y, c) ∈ cellsFrom h.objs.size names acc → x = y
  | [], _, _, _, _, _, _, hi, h1, h2 => hi _ _ _ h1 h2
  | (n, k) :: r, h, acc, x, y, c, hl, hi, h1, h2 => by
    unfold cellsFrom at h1 h2
    split at h1
    · rename_i hk
      rw [if_pos hk] at h2
      rw [← Heap.size_push h { cls := .type "cell", data := .cell none }] at h1 h2
      refine cells_inj (h := h.push _) (fun p hp => ?_) (fun x y c a b => ?_) h1 h2
      · rw [Heap.size_push]
        rcases List.mem_cons.mp hp with rfl | hp
        · exact Nat.lt_succ_self _
        · exact Nat.lt_succ_of_lt (hl p hp)
      · rcases List.mem_cons.mp a with e | a <;> rcases List.mem_cons.mp b with e' | b
        · cases e; cases e'; rfl
        · cases e; exact absurd (hl _ b) (Nat.lt_irrefl _)
        · cases e'; exact absurd (hl _ a) (Nat.lt_irrefl _)
        · exact hi _ _ _ a b
    · rename_i hk
      rw [if_neg hk] at h2
      exact cells_inj hl hi h1 h2
theorem newEnv_comp {M : Model} {A : Around} {E : Value → Shared → Prop} {s : Shared} {scope : Scope} {globals : Addr} {closure : List (Str × Addr)} {qual : Str} {func : Option Addr} {code : Value} {around : Env} {builtins : Addr} {Q : Env → Shared → Prop}
    (h : Q (newEnv scope s.heap.objs.size globals (cellsFrom (s.heap.objs.size + 1) scope.names closure) qual func code (some around) builtins)
      { s with heap := pushCells (s.heap.push { cls := .type "dict", data := .dict #[] }) scope.names }) :
    wpAny M A (newFunctionEnv scope globals closure [] qual func code (some around) builtins) Q E s := by
  simp only [newFunctionEnv, Option.isSome_some, if_true]
  refine wpAny_bind (wpAny_alloc ?_)
  refine wpAny_bind (wpAny_layCells _ (fun n k c => rfl) scope.names closure _ _ ?_)
  rw [show ({ s with heap := s.heap.push { cls := .type "dict", data := .dict #[] } } : Shared).heap.objs.size = s.heap.objs.size + 1 from Heap.size_push ..]
  rw [List.forIn_nil]
  exact wpAny_bind (wpAny_pure (wpAny_pure h))
theorem lookup_relS {sc : Scope} : ∀ {names : List (Str × NameKind)} {x : Str} {k : NameKind},
    (names.map fun (n, k) => if (k == NameKind.free && sc.kind == .function && sc.names.lookup n == some .cell) then (n, NameKind.cell) else (n, k)).lookup x = some k →
    ∃ k', names.lookup x = some k' ∧ (k = k' ∨ (k' = .free ∧ k = .cell))
  | [], _, _, h => by simp at h
  | (n, k₀) :: r, x, k, h => by
    have ih := @lookup_relS sc r x k
    have h' : List.lookup x ((if (k₀ == NameKind.free && sc.kind == .function && sc.names.lookup n == some .cell) = true then (n, NameKind.cell) else (n, k₀)) :: (r.map _)) = some k := h
    cases hx : x == n with
    | true =>
      simp only [List.lookup_cons, hx]
      by_cases hc : (k₀ == NameKind.free && sc.kind == .function && sc.names.lookup n == some .cell) = true
      · rw [if_pos hc] at h'
        simp only [List.lookup_cons, hx] at h'
        cases h'
        simp only [Bool.and_eq_true, beq_iff_eq] at hc
        exact ⟨k₀, rfl, .inr ⟨hc.1.1, rfl⟩⟩
      · rw [if_neg hc] at h'
        simp only [List.lookup_cons, hx] at h'
        cases h'
        exact ⟨_, rfl, .inl rfl⟩
    | false =>
      simp only [List.lookup_cons, hx]
      by_cases hc : (k₀ == NameKind.free && sc.kind == .function && sc.names.lookup n == some .cell) = true
      · rw [if_pos hc] at h'
        simp only [List.lookup_cons, hx] at h'
        exact ih h'
      · rw [if_neg hc] at h'
        simp only [List.lookup_cons, hx] at h'
        exact ih h'
structure BlkOk (N : List Str) (sc scope : Scope) (own : List (Str × Nat)) : Prop where
  kind : scope.kind = .function
  uniq : ∀ y ∈ scope.names, scope.names.lookup y.1 = some y.2
  ix : ∀ p ∈ own, N[p.2]? = some p.1
  free : ∀ y ∈ scope.names, y.2 = .free → sc.names.lookup y.1 = some .cell ∨ sc.names.lookup y.1 = some .free
  own : ∀ y ∈ scope.names, y.2 = .local ∨ y.2 = .cell → y.1 ∈ own.map (·.1) ∨ y.1 ∉ N
def wipe (σ : St) : List Nat → St
  | [] => σ
  | v :: vs => (wipe σ vs).set v none
theorem wipe_length (σ : St) : ∀ vs : List Nat, (wipe σ vs).length = σ.length
  | [] => rfl
  | v :: vs => by unfold wipe; rw [List.length_set, wipe_length σ vs]
theorem wipe_some {σ : St} {i : Nat} {x : V} : ∀ {vs : List Nat}, (wipe σ vs)[i]? = some (some x) → σ[i]? = some (some x) ∧ i ∉ vs
  | [], h => ⟨h, by simp⟩
  | v :: vs, h => by
    unfold wipe at h
    by_cases hi : v = i
    · subst hi
      by_cases hv : v < (wipe σ vs).length
      · rw [List.getElem?_set_self hv] at h; cases h
      · rw [List.getElem?_eq_none (by simpa using hv)] at h; cases h
    · rw [List.getElem?_set_ne hi] at h
      obtain ⟨h1, h2⟩ := wipe_some h
      exact ⟨h1, by simp only [List.mem_cons, not_or]; exact ⟨fun e => hi e.symm, h2⟩⟩
abbrev Cx.blk (X : Cx) (s : Shared) (H : Hp) (scope : Scope) (cenv : Env) (fp : List Addr) : Cx := { X with s_0 := s, H_0 := H, env := cenv, outer := X.stack, ex := fp, fn := fun x => scope.names.lookup x == some .cell, pn := [], xe := fun _ _ => False }
section
variable {X : Cx} {pins : List (Addr × Obj)} {σ : St} {H : Hp} {s : Shared}
theorem block_start {scope : Scope} {own : List (Str × Nat)} {fp : List Addr} (I : Inv X pins σ H s) (ok : BlkOk X.N X.env.scope scope own) (hN : X.N.Nodup) (hfp : ∀ b ∈ fp, FpOk X pins H b ∧ b < s.heap.objs.size) :
    Inv (X.blk s H scope (compEnvC scope (cellsFrom (s.heap.objs.size + 1) scope.names (cloFrom X.env.cells scope.names [])) s.heap.objs.size X.env) fp) [] (wipe σ (own.map (·.2))) H { s with heap := pushCells (s.heap.push { cls := .type "dict", data := .dict #[] }) scope.names } := by
  have hfree : ∀ y ∈ scope.names, y.2 = .free → ∃ c, X.env.cells.lookup y.1 = some c := fun y hy e => by
    rcases ok.free y hy e with k | k
    · exact I.ok.has _ (.inl k)
    · exact I.ok.has _ (.inr k)
  generalize hcenv : compEnvC scope (cellsFrom (s.heap.objs.size + 1) scope.names (cloFrom X.env.cells scope.names [])) s.heap.objs.size X.env = cenv
  have kp : ∀ b o, s.heap.get? b = some o → (pushCells (s.heap.push { cls := .type "dict", data := .dict #[] }) scope.names).get? b = some o := fun b o e => pushCells_keeps _ _ _ _ (Heap.get?_push_of_some _ e)
  have hL : cenv.locals = s.heap.objs.size := by rw [← hcenv]; rfl
  have hcl : cenv.cells = cellsFrom (s.heap.objs.size + 1) scope.names (cloFrom X.env.cells scope.names []) := by rw [← hcenv]; rfl
  have hsc : cenv.scope = relS scope X.env.scope := by rw [← hcenv]; rfl
  rw [← Heap.size_push s.heap { cls := .type "dict", data := .dict #[] }] at hcl
  have cm : ∀ {y c}, (y, c) ∈ cloFrom X.env.cells scope.names [] → X.env.cells.lookup y = some c ∧ c < s.heap.objs.size := fun {y c} hm => by
    rcases cloFrom_mem hm with hm | ⟨h1, rfl⟩
    · cases hm
    · obtain ⟨c, hc⟩ := hfree _ h1 rfl
      rw [hc]
      obtain ⟨w, z⟩ := I.cell _ _ hc
      exact ⟨rfl, z.lt⟩
  have mem : ∀ {y c}, cenv.cells.lookup y = some c → (X.env.cells.lookup y = some c ∧ c < s.heap.objs.size) ∨ (s.heap.objs.size + 1 ≤ c ∧ CellAt (pushCells (s.heap.push { cls := .type "dict", data := .dict #[] }) scope.names) c none) := fun {y c} e => by
    rw [hcl] at e
    rcases cells_mem (PySem.mem_of_lookup e) with hm | ⟨_, h2, h3⟩
    · exact .inl (cm hm)
    · rw [Heap.size_push] at h2; exact .inr ⟨h2, h3⟩
  have look : ∀ {y}, scope.names.lookup y = some .free → ∃ c, cenv.cells.lookup y = some c ∧ X.env.cells.lookup y = some c := fun {y} hl => by
    have hy : (y, NameKind.free) ∈ scope.names := PySem.mem_of_lookup hl
    obtain ⟨c', e'⟩ := mem_lookup (cells_acc (names := scope.names) (n := (s.heap.push { cls := .type "dict", data := .dict #[] }).objs.size) (cloFrom_has (cells := X.env.cells) (acc := []) hy))
    rw [← hcl] at e'
    refine ⟨c', e', ?_⟩
    rw [hcl] at e'
    rcases cells_mem (PySem.mem_of_lookup e') with hm | ⟨h1, _, _⟩
    · exact (cm hm).1
    · have := ok.uniq _ h1
      rw [hl] at this; cases this
  have okB : (X.blk s H scope cenv fp).Ok := by
    refine ⟨I.ok.mod, by show cenv.scope.kind = _; rw [hsc]; exact ok.kind, by show cenv.globals = _; rw [← hcenv]; exact I.ok.glob, by show cenv.builtins = _; rw [← hcenv]; exact I.ok.blt, by show s.heap.objs.size ≤ cenv.locals; rw [hL]; exact Nat.le_refl _,
      fun y z c e1 e2 => ?_, fun y hy => ?_, fun y c z e => ?_, I.ok.hd, I.ok.frames, .inl rfl, fun b hb => ⟨?_, fun y c e z => ?_⟩, I.bs, Nat.le_trans I.ok.bsz I.sz, fun b o e hb => ?_, fun b hb z => ?_, I.stack, I.stkFree⟩
    · have e1 : cenv.cells.lookup y = some c := e1
      have e2 : cenv.cells.lookup z = some c := e2
      rw [hcl] at e1 e2
      refine cells_inj (fun p hp => ?_) (fun y z c a b => I.ok.inj y z c (cm a).1 (cm b).1) (PySem.mem_of_lookup e1) (PySem.mem_of_lookup e2)
      rw [Heap.size_push]
      exact Nat.lt_succ_of_lt (cm (y := p.1) (c := p.2) hp).2
    · show ∃ c, cenv.cells.lookup y = some c
      have key : ∀ k, cenv.kindOf y = some k → (k = .cell ∨ k = .free) → ∃ c, cenv.cells.lookup y = some c := fun k hk hk' => by
        unfold Env.kindOf at hk
        rw [hsc] at hk
        obtain ⟨k', e, r⟩ := lookup_relS hk
        have : k' = .cell ∨ k' = .free := by
          rcases r with rfl | ⟨rfl, _⟩
          · exact hk'
          · exact .inr rfl
        rcases this with rfl | rfl
        · obtain ⟨c, hm⟩ := cells_has (n := (s.heap.push { cls := .type "dict", data := .dict #[] }).objs.size) (acc := cloFrom X.env.cells scope.names []) (PySem.mem_of_lookup e)
          obtain ⟨c', e'⟩ := mem_lookup hm
          exact ⟨c', by rw [hcl]; exact e'⟩
        · obtain ⟨c, h1, _⟩ := look e
          exact ⟨c, h1⟩
      rcases hy with hy | hy
      · exact key _ hy (.inl rfl)
      · exact key _ hy (.inr rfl)
    · have z : (scope.names.lookup y == some NameKind.cell) = true := z
      have z : scope.names.lookup y = some .cell := by simpa using z
      have e : cenv.cells.lookup y = some c := e
      rw [hcl] at e
      rcases cells_mem (PySem.mem_of_lookup e) with hm | ⟨_, h2, _⟩
      · rcases cloFrom_mem hm with hm | ⟨h1, _⟩
        · cases hm
        · have q := ok.uniq _ h1
          rw [z] at q; cases q
      · rw [Heap.size_push] at h2
        exact Nat.le_of_succ_le h2
    · show b ≠ cenv.locals
      rw [hL]; exact Nat.ne_of_lt (hfp b hb).2
    · have e : cenv.cells.lookup y = some c := e
      rcases mem e with ⟨h1, _⟩ | ⟨h1, _⟩
      · exact (hfp b hb).1.2.2.2.2.1 y c h1 z
      · have h2 : s.heap.objs.size + 1 ≤ b := by rw [← z]; exact h1
        exact absurd (Nat.lt_of_lt_of_le (hfp b hb).2 (Nat.le_of_succ_le h2)) (Nat.lt_irrefl _)
    · rcases (hfp b hb).1.2.2.2.1 with z | z
      · exact I.ok.noex b o e z
      · exact absurd (Nat.lt_of_lt_of_le (Heap.lt_size e) (Nat.le_trans I.ok.bsz z)) (Nat.lt_irrefl _)
    · rcases List.mem_cons.mp (I.stkSub b z) with z | z
      · exact (hfp b hb).1.2.1 z
      · exact (hfp b hb).1.2.2.1 z
  refine ⟨okB, rfl, I.bare, Un.kept kp, ⟨fun _ => none, ?_, fun i y av e1 e2 e3 => ?_⟩, fun y c e => ?_, ?_, fun y c e => ?_, fun p hp => ?_, I.hok.kept kp, by rw [wipe_length]; exact I.len⟩
  · show Heap.Ns _ cenv.locals _
    rw [hL]
    exact Heap.Ns.keeps (Heap.Ns.new ..) fun b o e => pushCells_keeps _ _ _ _ e
  · obtain ⟨e2, hne⟩ := wipe_some e2
    have hfr : scope.names.lookup y = some .free ∧ (cenv.kindOf y = some .cell ∨ cenv.kindOf y = some .free) := by
      have key : ∀ k, cenv.scope.names.lookup y = some k → k = .local ∨ k = .cell ∨ k = .free → scope.names.lookup y = some .free ∧ (cenv.kindOf y = some .cell ∨ cenv.kindOf y = some .free) := fun k hk hk' => by
        have hk0 := hk
        rw [hsc] at hk
        obtain ⟨k', e, r⟩ := lookup_relS hk
        have no : ¬ (k' = .local ∨ k' = .cell) := fun hh => by
          rcases ok.own _ (PySem.mem_of_lookup e) hh with e' | e'
          · obtain ⟨p, hp, hpy⟩ := List.mem_map.mp e'
            have e3 := ok.ix p hp
            have : p.1 = y := hpy
            rw [this] at e3
            exact hne (List.mem_map.mpr ⟨p, hp, nodup_ix hN e3 e1⟩)
          · exact e' (List.mem_of_getElem? e1)
        rcases r with rfl | ⟨rfl, rfl⟩
        · rcases hk' with rfl | rfl | rfl
          · exact absurd (.inl rfl) no
          · exact absurd (.inr rfl) no
          · exact ⟨e, .inr hk0⟩
        · exact ⟨e, .inl hk0⟩
      have e3 : Vis cenv.scope y := e3
      rcases e3 with e3 | e3 | e3
      · exact key _ e3 (.inl rfl)
      · exact key _ e3 (.inr (.inl rfl))
      · exact key _ e3 (.inr (.inr rfl))
    obtain ⟨m, hn, hl⟩ := I.loc
    have hvis : Vis X.env.scope y := (ok.free _ (PySem.mem_of_lookup hfr.1) rfl).elim (fun k => .inr (.inl k)) (fun k => .inr (.inr k))
    obtain ⟨w, r, q⟩ := hl i y av e1 e2 hvis
    refine ⟨w, r, .inr ⟨hfr.2, ?_⟩⟩
    obtain ⟨c, h1, h2⟩ := look hfr.1
    rcases q with ⟨k, _⟩ | ⟨_, c', e', z⟩
    · have k : X.env.scope.names.lookup y = some .local := k
      rcases ok.free _ (PySem.mem_of_lookup hfr.1) rfl with k' | k' <;> rw [show X.env.scope.names.lookup y = _ from k'] at k <;> cases k
    · rw [h2] at e'; cases e'
      exact ⟨c, h1, z.keeps kp⟩
  · have e : cenv.cells.lookup y = some c := e
    rcases mem e with ⟨h1, _⟩ | ⟨_, z⟩
    · obtain ⟨w, z⟩ := I.cell y c h1
      exact ⟨w, z.keeps kp⟩
    · exact ⟨_, z⟩
  · show H cenv.locals = none
    rw [hL]; exact I.hok.fresh (Nat.le_refl _)
  · have e : cenv.cells.lookup y = some c := e
    rcases mem e with ⟨h1, _⟩ | ⟨h1, _⟩
    · exact I.freeC y c h1
    · exact I.hok.fresh (Nat.le_of_succ_le h1)
  · exact absurd (show p ∈ ([] : List (Addr × Obj)) ++ [] from hp) (by simp)
theorem app_ok {E : Value → Shared → Prop} {D : Addr} {xs : List V} {y : V} {v : Value} {Q : Value → Shared → Prop} (I : Inv X pins σ H s) (hD : H D = some (.lst xs)) (hz : xs.length < sizeLine) (r : RelV y v)
    (h : ∀ s', Inv X pins σ (upd H D (.lst (xs ++ [y]))) s' → Q .none s') : wpAny (model X.prog X.w) X.A (call (.builtin "list.append") [.ref D, v]) Q E s := by
  obtain ⟨hz', its, n, ri, e⟩ := I.hok D _ hD
  have hl := ri.length
  refine append_at (hsz := by rw [List.size_toArray]; omega) e fun h' sb ho' => ?_
  refine h { s with heap := h' } (I.write (t' := s.toks) (by rw [hD]; trivial) (.inl rfl) (fun b u hb q => (sb.2 b hb).trans q) ⟨_, ho'⟩ ⟨by rw [List.length_append]; exact hz, its ++ [v], n + 1, ri.append (.cons r .nil), ?_⟩)
  rw [ho']
  simp
def PTs (X : Cx) (ifs : List Expr) (t : TT) : Prop :=
  ∀ (pins : List (Addr × Obj)) (s : Shared) (σ : St) (H : Hp) (Q : Bool → Hp → Prop), Inv X pins σ H s → t σ H Q →
    wpAny (model X.prog X.w) X.A (forIn ifs true fun c r => if r = true then do let ok ← isTrue c X.env (eval c X.env); pure (ForInStep.yield ok) else pure (ForInStep.yield r)) (TP X pins σ Q) X.xe s
def tYes : TT := fun _ H Q => Q true H
theorem pts_nil : PTs X [] tYes := fun _ _ _ H _ I h => wpAny_tests_nil ⟨H, I, h⟩
theorem pts_one {c : Expr} {t : TT} (h : PT X c t) : PTs X [c] t := fun pins s σ H Q I hw => wpAny_tests_one (h pins s σ H Q I hw)
end
theorem thnF {α : Type} {t : Sem α} {Q Q' : α → Shared → Prop} {M : Model} {A : Around} {E : Value → Shared → Prop} {s : Shared} (h : wpAny M A t Q (fun _ _ => False) s) (hQ : ∀ a s, Q a s → Q' a s) : wpAny M A t Q' E s := wpAny_mono h hQ fun _ _ z => False.elim z
theorem compLoop_any {prog : Program} {w : World} {A : Around} {R : Result → Shared → Prop} {s : Shared} {elt target iter : Expr} {ifs : List Expr} {scope : Scope} {pos : Pos} {it acc : Value} {env : Env} (I : Nat → Shared → Prop)
    (turn : ∀ n s, I n s → wpAny (model prog w) A (pyNext it) (fun r s₁ => match r with
      | none => R (.ok .next) s₁
      | some v => wpAny (model prog w) A (letOwnedTupleGo target it v) (fun _ s₁' => wpAny (model prog w) A (assign target env v) (fun _ s₂ =>
          wpAny (model prog w) A (forIn ifs true fun c r => if r = true then do let ok ← isTrue c env (eval c env); pure (ForInStep.yield ok) else pure (ForInStep.yield r)) (fun ok s₃ =>
            if ok = true then wpAny (model prog w) A (eval elt env) (fun x s₄ =>
              wpAny (model prog w) A (call (.builtin "list.append") [acc, x]) (fun _ s₅ => ∃ m, m < n ∧ I m s₅) (notedBy (model prog w) A env fun e s' => R (.error e) s') s₄) (notedBy (model prog w) A env fun e s' => R (.error e) s') s₃
            else ∃ m, m < n ∧ I m s₃) (notedBy (model prog w) A env fun e s' => R (.error e) s') s₂) (notedBy (model prog w) A env fun e s' => R (.error e) s') s₁') (notedBy (model prog w) A env fun e s' => R (.error e) s') s₁) (notedBy (model prog w) A env fun e s' => R (.error e) s') s)
    (n : Nat) (h : I n s) :
    codeAny (model prog w) A (.compLoop (.ListComp elt [⟨target, iter, ifs, 0⟩] scope pos) 0 it acc env) R s := by
  refine codeAny_loop rfl I (fun n s hI => ?_) n h
  show wpAny _ A ((compTurn (.ListComp elt [⟨target, iter, ifs, 0⟩] scope pos) 0 it acc env).onRaise (fun x => do noteFrame x env; theTreesLotGoes x)) _ _ s
  refine wpAny_noted ?_
  rw [compTurn_list]
  refine wpAny_bind (wpAny_standAt (wpAny_bind (wpAny_mono (turn n s hI) (fun r s₁ h₁ => ?_) fun _ _ h' => h')))
  cases r with
  | none => exact wpAny_pure h₁
  | some v =>
    refine wpAny_bind (wpAny_mono h₁ (fun _ s₁' h₁' => ?_) fun _ _ h' => h')
    refine wpAny_bind (wpAny_mono h₁' (fun _ s₂ h₂ => wpAny_bind (wpAny_mono h₂ (fun ok s₃ h₃ => ?_) fun _ _ h' => h')) fun _ _ h' => h')
    cases ok with
    | false => exact wpAny_pure ⟨rfl, h₃⟩
    | true =>
      exact wpAny_bind (wpAny_bind (wpAny_mono h₃ (fun x s₄ h₄ => wpAny_bind (wpAny_mono h₄ (fun _ s₅ h₅ => wpAny_pure (wpAny_pure ⟨rfl, h₅⟩)) fun _ _ h' => h')) fun _ _ h' => h'))
section
variable {X : Cx}
def tLc (wi : TI) (g : TG) (tt : TT) (te : TE) (vs : List Nat) : TE := fun σ H Q => wi σ H fun J H1 => ∀ D, H1 D = none → ∃ W : Nat → Nat → Hp → Prop, (∃ m, W 0 m (upd H1 D (.lst []))) ∧ ∀ i m H, W i m H →
  (J.stop i H ∧ Q (.ref D) H) ∨ (J.go i H ∧ ∃ Nx : Hp → Prop, (∀ H', Nx H' → ∃ m', m' < m ∧ W (i + 1) m' H') ∧ ∀ x H', J.yld i H x H' → g x (wipe σ vs) H' fun σ2 H2 => wipe σ2 vs = wipe σ vs ∧ tt σ2 H2 fun b H3 =>
    if b = true then te σ2 H3 fun y H4 => ∃ acc, H4 D = some (.lst acc) ∧ acc.length < sizeLine ∧ Nx (upd H4 D (.lst (acc ++ [y]))) else Nx H3)
theorem lc_core {pins : List (Addr × Obj)} {s : Shared} {σ : St} {H : Hp} {Q : VK} {elt tg iter : Expr} {ifs : List Expr} {scope : Scope} {own : List (Str × Nat)} {pos pos' : Pos} {wi : TI} {g : TG} {tt : TT} {te : TE} {use : Option (Value → Sem Unit)} {Qf : Value → Shared → Prop}
    (hc : X.calm = true) (hN : X.N.Nodup) (I : Inv X pins σ H s) (hi : PI X tg iter wi) (ok : BlkOk X.N X.env.scope scope own)
    (hg : ∀ (s : Shared) (H : Hp) (C : Addr) (cl : List (Str × Addr)) (fp : List Addr), PG (X.blk s H scope (compEnvC scope cl C X.env) fp) tg g) (ht : ∀ (s : Shared) (H : Hp) (C : Addr) (cl : List (Str × Addr)) (fp : List Addr), PTs (X.blk s H scope (compEnvC scope cl C X.env) fp) ifs tt)
    (he : ∀ (s : Shared) (H : Hp) (C : Addr) (cl : List (Str × Addr)) (fp : List Addr), PE (X.blk s H scope (compEnvC scope cl C X.env) fp) elt te) (hs : ∀ x, foldedSetIterable iter X.env x = pure x)
    (h : tLc wi g tt te (own.map (·.2)) σ H Q)
    (hRR : ∀ D C s' m H', Inv X pins σ H' s' → Q (.ref D) H' → s'.heap.Ns C m → FpOk X pins H' C → compPost (model X.prog X.w) X.A X.xe use Qf (.ref D) C (.ok .next) s') :
    wpAny (model X.prog X.w) X.A (comprehension (.ListComp elt [⟨tg, iter, ifs, 0⟩] scope pos) scope X.env pos' (newList []) false (eval iter X.env) use) Qf X.xe s := by
  have hfree : ∀ y ∈ scope.names, y.2 = .free → ∃ c, X.env.cells.lookup y.1 = some c := fun y hy e => by
    rcases ok.free y hy e with k | k
    · exact I.ok.has _ (.inl k)
    · exact I.ok.has _ (.inr k)
  refine wpAny_comprehension_free (use := use) rfl hs (closure_ok hfree) ok.kind (fun y hy e => by rw [ok.uniq y hy, e])
    (thn (hi pins s σ H _ I h) fun xv s1 hx => thn hx fun itv s2 h2 => ?_)
  obtain ⟨it, fp, tn, J, H2, e, I2, T, st2, f2, q⟩ := h2
  subst e
  refine wpAny_newObj_type (newEnv_comp ?_) (by show 0 ≤ sizeLine; decide)
  generalize hD : s2.heap.objs.size = D
  have hDn : H2 D = none := I2.hok.fresh (Nat.le_of_eq hD)
  obtain ⟨W, ⟨m0, w0⟩, turn⟩ := q D hDn
  -- the new list
  generalize hs3 : ({ s2 with heap := s2.heap.push { cls := .type "list", data := .seq ([] : List Value).toArray } } : Shared) = s3
  have I3 : Inv X pins σ (upd H2 D (.lst [])) s3 := by
    rw [← hs3]
    refine I2.laid (t' := s2.toks) (fun b o e => Heap.get?_push_of_some _ e) (Nat.le_of_eq hD) ⟨Nat.zero_le _, [], 0, .nil, ?_⟩
    rw [← hD]
    exact Heap.get?_push_size _ rfl
  have h3 : s3.heap = s2.heap.push { cls := .type "list", data := .seq ([] : List Value).toArray } := by rw [← hs3]
  have sz : ∀ b ∈ fp, b < s2.heap.objs.size := fun b hb => by
    obtain ⟨o, e, _⟩ := T.obj _ _ st2 b hb
    exact Heap.lt_size e
  have f3 : ∀ b ∈ fp, FpOk X pins (upd H2 D (.lst [])) b ∧ b < s3.heap.objs.size := fun b hb => by
    have hlt := sz b hb
    refine ⟨⟨?_, (f2 b hb).2⟩, by rw [h3, Heap.size_push]; exact Nat.lt_succ_of_lt hlt⟩
    rw [upd_ne (by rw [← hD]; exact Nat.ne_of_lt hlt)]
    exact (f2 b hb).1
  have st3 : tn 0 s3.heap := T.keep _ _ _ st2 fun b _ o e => by rw [h3]; exact Heap.get?_push_of_some _ e
  have I4 := block_start I3 ok hN f3
  have pg := hg s3 (upd H2 D (.lst [])) s3.heap.objs.size (cellsFrom (s3.heap.objs.size + 1) scope.names (cloFrom X.env.cells scope.names [])) fp
  have pt := ht s3 (upd H2 D (.lst [])) s3.heap.objs.size (cellsFrom (s3.heap.objs.size + 1) scope.names (cloFrom X.env.cells scope.names [])) fp
  have pe := he s3 (upd H2 D (.lst [])) s3.heap.objs.size (cellsFrom (s3.heap.objs.size + 1) scope.names (cloFrom X.env.cells scope.names [])) fp
  show codeAny _ _ (.compStart (.ListComp elt [⟨tg, iter, ifs, 0⟩] scope pos) 0 (.ref it) (.ref D) (compEnvC scope (cellsFrom (s3.heap.objs.size + 1) scope.names (cloFrom X.env.cells scope.names [])) s3.heap.objs.size X.env)) (compPost (model X.prog X.w) X.A X.xe use Qf (.ref D) s3.heap.objs.size) { s3 with heap := pushCells (s3.heap.push { cls := .type "dict", data := .dict #[] }) scope.names }
  have nfp : ∀ b ∈ fp, (upd H2 D (.lst [])) b = none := fun b hb => (f3 b hb).1.1
  generalize hce : compEnvC scope (cellsFrom (s3.heap.objs.size + 1) scope.names (cloFrom X.env.cells scope.names [])) s3.heap.objs.size X.env = ce at I4 pg pt pe ⊢
  have cL : ce.locals = s3.heap.objs.size := by subst hce; rfl
  generalize hH3 : upd H2 D (.lst []) = H3 at I3 I4 pg pt pe w0 nfp f3
  generalize hs4 : ({ s3 with heap := pushCells (s3.heap.push { cls := .type "dict", data := .dict #[] }) scope.names } : Shared) = s4 at I4 ⊢
  have st4 : tn 0 s4.heap := T.keep _ _ _ st3 fun b _ o e => by rw [← hs4]; exact pushCells_keeps _ _ _ _ (Heap.get?_push_of_some _ e)
  have stat : ∀ {σ' : St} {H' : Hp} {s' : Shared}, Inv (X.blk s3 H3 scope ce fp) [] σ' H' s' → (∀ b ∈ fp, H' b = none) → ∀ b ∈ fp, FpOk (X.blk s3 H3 scope ce fp) [] H' b := fun {σ' H' s'} I' hn b hb =>
    ⟨hn b hb, (I'.ok.exf b hb).1, I'.ok.exfs b hb, .inl hb, fun x c e => (I'.ok.exf b hb).2 x c e, fun p hp => absurd (show p ∈ ([] : List (Addr × Obj)) ++ [] from hp) (by simp)⟩
  have loop : codeAny (model X.prog X.w) X.A (.compLoop (.ListComp elt [⟨tg, iter, ifs, 0⟩] scope pos) 0 (.ref it) (.ref D) ce) (compPost (model X.prog X.w) X.A X.xe use Qf (.ref D) s3.heap.objs.size) s4 := by
    refine compLoop_any (fun n s' => ∃ i H', Inv (X.blk s3 H3 scope ce fp) [] (wipe σ (own.map (·.2))) H' s' ∧ tn i s'.heap ∧ (∀ b ∈ fp, H' b = none) ∧ W i n H') ?_ m0 ⟨0, H3, I4, st4, nfp, w0⟩
    rintro n s5 ⟨i, H5, I5, st5, n5, w5⟩
    rcases turn i n H5 w5 with ⟨stop, qq⟩ | ⟨go, Nx, hNx, step⟩
    · have td := T.done (X.blk s3 H3 scope ce fp) rfl rfl rfl hc i [] s5 _ H5 (fun _ _ => False) I5 (stat I5 n5) st5 stop
      refine thnF td fun r s6 ⟨hr, I6⟩ => ?_
      subst hr
      -- back in the def's context
      have I7 : Inv X pins σ H5 s6 := I3.call' (ch := fp) I6.os I6.base I6.hok I6.bare fun b hb => ⟨(f3 b hb).1.2.2.2.1, (f3 b hb).1.2.1, (f3 b hb).1.2.2.2.2.1, (f3 b hb).1.2.2.2.2.2⟩
      have nC : H5 s3.heap.objs.size = none := by
        have z : H5 ce.locals = none := I6.free
        rw [cL] at z
        exact z
      obtain ⟨m, hn, _⟩ := I6.loc
      have hn : s6.heap.Ns ce.locals m := hn
      rw [cL] at hn
      exact hRR D s3.heap.objs.size s6 m H5 I7 qq hn (I3.fpOk (Nat.le_refl _) nC)
    · have ti := T.item (X.blk s3 H3 scope ce fp) rfl rfl rfl hc i [] s5 _ H5 (fun _ _ => False) I5 (stat I5 n5) st5 go
      refine thnF ti fun r s6 ⟨u, hr, h6⟩ => ?_
      subst hr
      refine thnF h6 fun _ s7 ⟨x, H7, I7, r7, y7, st7, n7⟩ => ?_
      have I7' := I7.pinned (stat I7 n7) (T.obj _ _ st7)
      refine thnF (pg _ s7 _ H7 x u _ I7' r7 (step x H7 y7)) fun _ s8 ⟨σ8, H8, I8, hw8, q8⟩ => ?_
      refine thnF (pt _ s8 σ8 H8 _ I8 q8) fun b s9 ⟨H9, I9, q9⟩ => ?_
      -- the turn's end
      have fin : ∀ {s' : Shared} {H' : Hp}, Inv (X.blk s3 H3 scope ce fp) ([] ++ pinsAt fp s7.heap) σ8 H' s' → Nx H' → ∃ m, m < n ∧ ∃ i H', Inv (X.blk s3 H3 scope ce fp) [] (wipe σ (own.map (·.2))) H' s' ∧ tn i s'.heap ∧ (∀ b ∈ fp, H' b = none) ∧ W i m H' := fun {s' H'} I' nx => by
        obtain ⟨m', hm, w'⟩ := hNx H' nx
        have pin' : ∀ b ∈ fp, ∀ o, s7.heap.get? b = some o → s'.heap.get? b = some o ∧ H' b = none := fun b hb o e =>
          let z := I'.pin (b, o) (List.mem_append_right _ (List.mem_append_right _ (mem_pinsAt hb e)))
          ⟨z.1, z.2.1⟩
        have hl : (wipe σ (own.map (·.2))).length = σ8.length := by rw [← hw8, wipe_length]
        refine ⟨m', hm, i + 1, H', (I'.unpinned (pins := [])).weak hl (fun j v e => ?_), T.keep _ _ _ st7 fun b hb o e => (pin' b hb o e).1, fun b hb => ?_, w'⟩
        · rw [← hw8] at e
          exact (wipe_some e).1
        · obtain ⟨o, e, _⟩ := T.obj _ _ st7 b hb
          exact (pin' b hb o e).2
      cases b with
      | false =>
        simp only [Bool.false_eq_true, if_false] at q9 ⊢
        exact fin I9 q9
      | true =>
        simp only [if_true] at q9 ⊢
        refine thnF (pe _ s9 σ8 H9 _ I9 q9) fun z s10 ⟨yv, H10, I10, r10, acc, hD10, hz10, nx⟩ => ?_
        exact app_ok (X := X.blk s3 H3 scope ce fp) I10 hD10 hz10 r10 fun s11 I11 => fin I11 nx
  exact codeAny_compStart_list loop (T.self X.A 0 _ _ _ st4 loop)
theorem pe_lc {elt tg iter : Expr} {ifs : List Expr} {scope : Scope} {own : List (Str × Nat)} {pos : Pos} {wi : TI} {g : TG} {tt : TT} {te : TE} (hc : X.calm = true) (hN : X.N.Nodup) (hi : PI X tg iter wi) (ok : BlkOk X.N X.env.scope scope own)
    (hg : ∀ (s : Shared) (H : Hp) (C : Addr) (cl : List (Str × Addr)) (fp : List Addr), PG (X.blk s H scope (compEnvC scope cl C X.env) fp) tg g) (ht : ∀ (s : Shared) (H : Hp) (C : Addr) (cl : List (Str × Addr)) (fp : List Addr), PTs (X.blk s H scope (compEnvC scope cl C X.env) fp) ifs tt)
    (he : ∀ (s : Shared) (H : Hp) (C : Addr) (cl : List (Str × Addr)) (fp : List Addr), PE (X.blk s H scope (compEnvC scope cl C X.env) fp) elt te) (hs : ∀ x, foldedSetIterable iter X.env x = pure x := by intro _; rfl) :
    PE X (.ListComp elt [⟨tg, iter, ifs, 0⟩] scope pos) (tLc wi g tt te (own.map (·.2))) := by
  intro pins s σ H Q I h
  rw [eval_ListComp]
  refine lc_core hc hN I hi ok hg ht he hs h fun D C s' m H' I' q hn f => ⟨m, hn, fun h'' sb => ?_⟩
  obtain ⟨f0, f1, f2, f3, f4, f5⟩ := f
  exact ⟨.ref D, H', I'.turned (t' := s'.toks) (fun b o hb e => (sb.2 b hb).trans e) f0 f1 f3 f4 f5, rfl, q⟩
theorem ps_setLc {i : Nat} {y : Str} {py : Pos} {elt tg iter : Expr} {ifs : List Expr} {scope : Scope} {own : List (Str × Nat)} {pos spos : Pos} {wi : TI} {g : TG} {tt : TT} {te : TE} (hc : X.calm = true) (hN : X.N.Nodup) (hy : X.N[i]? = some y) (hyl : X.env.scope.names.lookup y = some .local)
    (hsw : swapsWith (.ListComp elt [⟨tg, iter, ifs, 0⟩] scope pos) (some (.Name y py)) spos.line X.env = pure true) (hi : PI X tg iter wi) (ok : BlkOk X.N X.env.scope scope own)
    (hg : ∀ (s : Shared) (H : Hp) (C : Addr) (cl : List (Str × Addr)) (fp : List Addr), PG (X.blk s H scope (compEnvC scope cl C X.env) fp) tg g) (ht : ∀ (s : Shared) (H : Hp) (C : Addr) (cl : List (Str × Addr)) (fp : List Addr), PTs (X.blk s H scope (compEnvC scope cl C X.env) fp) ifs tt)
    (he : ∀ (s : Shared) (H : Hp) (C : Addr) (cl : List (Str × Addr)) (fp : List Addr), PE (X.blk s H scope (compEnvC scope cl C X.env) fp) elt te) (hs : ∀ x, foldedSetIterable iter X.env x = pure x := by intro _; rfl) :
    PS X (.Assign [.Name y py] (.ListComp elt [⟨tg, iter, ifs, 0⟩] scope pos) spos) (tAsg (tLc wi g tt te (own.map (·.2))) (gName i)) := by
  intro pins s σ H D I h
  rw [exec_Assign_Name_used _ _ _ _ hsw]
  refine wpAny_bind (wpAny_standAt (wpAny_bind ?_))
  show wpAny _ X.A (do let _ ← comprehension (.ListComp elt [⟨tg, iter, ifs, 0⟩] scope pos) scope X.env (firstIterPos [⟨tg, iter, ifs, 0⟩] pos) (newList []) false (eval iter X.env) (some (assign (.Name y py) X.env))) _ _ s
  have h : tLc wi g tt te (own.map (·.2)) σ H (fun x H1 => gName i x σ H1 D.nx) := h
  refine wpAny_bind (thn (lc_core (Qf := fun _ s' => SP X pins D .next s') hc hN I hi ok hg ht he hs h fun L C s' m H' I' q hn f => ?_) fun _ s' hq => wpAny_pure (wpAny_pure hq))
  show wpAny _ _ (assign (.Name y py) X.env (.ref L)) _ _ _
  refine wpAny_assign_Name (store_ok2 (v := V.ref L) I' hN hy (.inl hyl) rfl (fun s2 I2 ⟨a, sb, ha⟩ => ?_) (.inr hyl))
  obtain ⟨f0, f1, f2, f3, f4, f5⟩ := f
  have haC : C ≠ a := by
    rcases ha with z | z
    · rw [z]; exact f1
    · exact fun e => f4 y a z e.symm
  refine ⟨m, hn.sameBut sb haC, fun h3 sb3 => ?_⟩
  exact ⟨_, H', I2.turned (t' := s2.toks) (fun b o hb e => (sb3.2 b hb).trans e) f0 f1 f3 f4 f5, q⟩
theorem sw_true {elt : Expr} {gs : List Comprehension} {scope : Scope} {pos py : Pos} {y : Str} {l : Nat} {env : Env} (hk : env.scope.kind = .function) (hy : env.scope.names.lookup y = some .local) (hl : (py.line == pos.line) = true)
    (ha : (scope.names.any fun (n, k) => n == y && (k == .local || k == .cell)) = false) : swapsWith (.ListComp elt gs scope pos) (some (.Name y py)) l env = pure true := by
  have ky : env.kindOf y = some .local := hy
  have hb : env.blockKind = .function := by unfold Env.blockKind; rw [hk]; rfl
  unfold swapsWith
  simp only [hb, ky, ha, Expr.pos, hl]
  rfl
end
theorem lc_range {lo : Int} {n : Nat} {g : TG} {tt : TT} {te : TE} {vs : List Nat} {σ : St} {H1 : Hp} {D : Addr} {Qd : Hp → Prop} (Pv : Nat → Hp → Prop) (h0 : Pv 0 (upd H1 D (.lst [])))
    (hs : ∀ i H, i < n → Pv i H → g (.int (lo + i)) (wipe σ vs) H fun σ2 H2 => wipe σ2 vs = wipe σ vs ∧ tt σ2 H2 fun b H3 =>
      if b = true then te σ2 H3 fun y H4 => ∃ acc, H4 D = some (.lst acc) ∧ acc.length < sizeLine ∧ Pv (i + 1) (upd H4 D (.lst (acc ++ [y]))) else Pv (i + 1) H3) (hd : ∀ H, Pv n H → Qd H) :
    ∃ W : Nat → Nat → Hp → Prop, (∃ m, W 0 m (upd H1 D (.lst []))) ∧ ∀ i m H, W i m H →
      ((Itr lo n).stop i H ∧ Qd H) ∨ ((Itr lo n).go i H ∧ ∃ Nx : Hp → Prop, (∀ H', Nx H' → ∃ m', m' < m ∧ W (i + 1) m' H') ∧ ∀ x H', (Itr lo n).yld i H x H' → g x (wipe σ vs) H' fun σ2 H2 => wipe σ2 vs = wipe σ vs ∧ tt σ2 H2 fun b H3 =>
        if b = true then te σ2 H3 fun y H4 => ∃ acc, H4 D = some (.lst acc) ∧ acc.length < sizeLine ∧ Nx (upd H4 D (.lst (acc ++ [y]))) else Nx H3) := by
  refine ⟨fun i m H => m = n - i ∧ i ≤ n ∧ Pv i H, ⟨n, by simp, Nat.zero_le _, h0⟩, ?_⟩
  rintro i m H ⟨rfl, hi, p⟩
  by_cases hlt : i < n
  · refine .inr ⟨hlt, Pv (i + 1), fun H' p' => ⟨n - (i + 1), by omega, rfl, hlt, p'⟩, fun x H' y => ?_⟩
    obtain ⟨e, y⟩ := y
    subst e y
    exact hs i _ hlt p
  · have e : i = n := by omega
    subst e
    exact .inl ⟨Nat.le_refl _, hd H p⟩
def blkC (N : List Str) (sc scope : Scope) (own : List (Str × Nat)) : Bool :=
  (match scope.kind with | .function => true | _ => false) && (scope.names.all fun y => decide (scope.names.lookup y.1 = some y.2)) && (own.all fun p => decide (N[p.2]? = some p.1)) &&
    (scope.names.all fun y => match y.2 with
      | .free => (match sc.names.lookup y.1 with | some .cell => true | some .free => true | _ => false)
      | .local => decide (y.1 ∈ own.map (·.1)) || decide (y.1 ∉ N)
      | .cell => decide (y.1 ∈ own.map (·.1)) || decide (y.1 ∉ N)
      | _ => true)
theorem blkOk_by {N : List Str} {sc scope : Scope} {own : List (Str × Nat)} (h : blkC N sc scope own = true) : BlkOk N sc scope own := by
  unfold blkC at h
  simp only [Bool.and_eq_true, List.all_eq_true, decide_eq_true_eq] at h
  obtain ⟨⟨⟨h1, h2⟩, h3⟩, h4⟩ := h
  refine ⟨?_, h2, h3, fun y hy e => ?_, fun y hy e => ?_⟩
  · split at h1
    · assumption
    · cases h1
  · have q := h4 y hy
    simp only [e] at q
    split at q <;> first | exact .inl (by assumption) | exact .inr (by assumption) | cases q
  · have q := h4 y hy
    rcases e with e | e <;> (simp only [e, Bool.or_eq_true, decide_eq_true_eq] at q; exact q)
end L2
namespace L2
open PySem PySem.Spec PyProof.Rows
section
variable {prog : Program} {w : World} {A : Around} {R : Result → Shared → Prop} {s : Shared} {elt t0 i0 t1 i1 : Expr} {ifs0 ifs1 : List Expr} {scope : Scope} {pos : Pos} {it acc : Value} {env : Env}
end
section
variable {X : Cx}
end
end L2
namespace L2
open PySem PySem.Spec PyProof.Rows
section
variable {κ : Type} [DecidableEq κ]
def valV (kvs : List (κ × V)) (k : κ) : Option V := (kvs.find? fun kv => decide (kv.1 = k)).map (·.2)
def putK (kvs : List (κ × V)) (k : κ) (v : V) : List (κ × V) :=
  if (kvs.any fun kv => decide (kv.1 = k)) = true then kvs.map (fun kv => if kv.1 = k then (kv.1, v) else kv) else kvs ++ [(k, v)]
def dropK (kvs : List (κ × V)) (k : κ) : List (κ × V) := kvs.filter fun kv => decide (kv.1 ≠ k)
theorem valV_pos {p : κ × V} {r : List (κ × V)} {k : κ} (e : p.1 = k) : valV (p :: r) k = some p.2 := by simp [valV, List.find?_cons, e]
theorem valV_neg {p : κ × V} {r : List (κ × V)} {k : κ} (e : ¬ p.1 = k) : valV (p :: r) k = valV r k := by simp [valV, List.find?_cons, e]
theorem valV_any (k : κ) : ∀ kvs : List (κ × V), (kvs.any fun kv => decide (kv.1 = k)) = (valV kvs k).isSome
  | [] => rfl
  | p :: r => by
    rw [List.any_cons]
    by_cases e : p.1 = k
    · simp only [valV_pos e, decide_eq_true e, Bool.true_or, Option.isSome_some]
    · rw [valV_neg e, decide_eq_false e, Bool.false_or]; exact valV_any k r
theorem length_putK (kvs : List (κ × V)) (k : κ) (v : V) : (putK kvs k v).length ≤ kvs.length + 1 := by
  unfold putK
  split
  · rw [List.length_map]; omega
  · rw [List.length_append, List.length_cons, List.length_nil]; omega
theorem RelO.isSome_eq {o : Option V} {u : Option Value} (r : RelO o u) : o.isSome = u.isSome := by
  cases o with
  | none => cases u with
    | none => rfl
    | some _ => exact (show False from r).elim
  | some _ => cases u with
    | none => exact (show False from r).elim
    | some _ => rfl
theorem RelO.getD {o : Option V} {u : Option Value} {d : V} {d' : Value} (r : RelO o u) (rd : RelV d d') : RelV (o.getD d) (u.getD d') := by
  cases o with
  | none => cases u with
    | none => exact rd
    | some _ => exact (show False from r).elim
  | some _ => cases u with
    | none => exact (show False from r).elim
    | some _ => exact r
theorem KV.val {kvs : List (κ × V)} {vs : List (κ × Value)} (r : KV kvs vs) (k : κ) : RelO (valV kvs k) (valueAt vs k) := by
  unfold KV at r
  induction r with
  | nil => exact True.intro
  | @cons p q ps qs h t ih =>
    obtain ⟨h1, h2⟩ := h
    by_cases e : p.1 = k
    · have e' : q.1 = k := h1.symm.trans e
      have b : valueAt (q :: qs) k = some q.2 := by simp [valueAt, List.find?_cons, e']
      rw [valV_pos e, b]; exact h2
    · have e' : ¬ q.1 = k := fun z => e (h1.trans z)
      have b : valueAt (q :: qs) k = valueAt qs k := by simp [valueAt, List.find?_cons, e']
      rw [valV_neg e, b]; exact ih
theorem KV.any {kvs : List (κ × V)} {vs : List (κ × Value)} (r : KV kvs vs) (k : κ) : (kvs.any fun kv => decide (kv.1 = k)) = vs.any fun kv => decide (kv.1 = k) := by
  unfold KV at r
  induction r with
  | nil => rfl
  | cons h t ih => rw [List.any_cons, List.any_cons, ih, h.1]
theorem KV.repl {kvs : List (κ × V)} {vs : List (κ × Value)} (r : KV kvs vs) (k : κ) {y : V} {u : Value} (ry : RelV y u) :
    KV (kvs.map fun kv => if kv.1 = k then (kv.1, y) else kv) (vs.map fun kv => if kv.1 = k then (kv.1, u) else kv) := by
  unfold KV at r ⊢
  induction r with
  | nil => exact .nil
  | @cons p q ps qs h t ih =>
    rw [List.map_cons, List.map_cons]
    refine .cons ?_ ih
    obtain ⟨h1, h2⟩ := h
    by_cases e : p.1 = k
    · rw [if_pos e, if_pos (h1.symm.trans e)]; exact ⟨h1, ry⟩
    · rw [if_neg e, if_neg (fun z => e (h1.trans z))]; exact ⟨h1, h2⟩
theorem KV.put {kvs : List (κ × V)} {vs : List (κ × Value)} (r : KV kvs vs) (k : κ) {y : V} {u : Value} (ry : RelV y u) : KV (putK kvs k y) (stored vs k u) := by
  unfold putK stored
  rw [r.any k]
  by_cases e : (vs.any fun kv => decide (kv.1 = k)) = true
  · rw [if_pos e, if_pos e]; exact r.repl k ry
  · rw [if_neg e, if_neg e]; exact Paired.snoc r ⟨rfl, ry⟩
theorem KV.drop {kvs : List (κ × V)} {vs : List (κ × Value)} (r : KV kvs vs) (k : κ) : KV (dropK kvs k) (without vs k) := by
  unfold KV at r ⊢
  unfold dropK without
  induction r with
  | nil => exact .nil
  | @cons p q ps qs h t ih =>
    obtain ⟨h1, h2⟩ := h
    rw [List.filter_cons, List.filter_cons]
    by_cases e : p.1 = k
    · have a : ¬ decide (p.1 ≠ k) = true := by simp [e]
      have b : ¬ decide (q.1 ≠ k) = true := by simp [h1.symm.trans e]
      rw [if_neg a, if_neg b]; exact ih
    · have e' : ¬ q.1 = k := fun z => e (h1.trans z)
      have a : decide (p.1 ≠ k) = true := by simp [e]
      have b : decide (q.1 ≠ k) = true := by simp [e']
      rw [if_pos a, if_pos b]; exact .cons ⟨h1, h2⟩ ih
theorem KV.keys {kvs : List (κ × V)} {vs : List (κ × Value)} (r : KV kvs vs) : kvs.map (·.1) = vs.map (·.1) := by
  unfold KV at r
  induction r with
  | nil => rfl
  | cons h t ih => rw [List.map_cons, List.map_cons, ih, h.1]
theorem KV.length {kvs : List (κ × V)} {vs : List (κ × Value)} (r : KV kvs vs) : kvs.length = vs.length := Paired.length r
end
theorem kV_is {P : Program} {w : World} {k : Key} {u : Value} (r : RelV (kV k) u) : (mixKind P w).is k u = true := by
  cases k with
  | inl i => obtain ⟨t, e⟩ := (show ∃ t, u = Value.int i t from r); subst e; exact mixKind_int P w i t
  | inr x => obtain ⟨t, e⟩ := (show ∃ t, u = Value.str x t from r); subst e; exact mixKind_str P w x t
theorem items_are {P : Program} {w : World} : ∀ {ks : List Key} {us : List Value}, Vals (ks.map kV) us → ItemsAre (mixKind P w) ks us
  | [], _, r => by rw [List.map_nil] at r; cases r; exact .nil
  | k :: ks, _, r => by
    rw [List.map_cons] at r
    cases r with
    | cons h t => exact .cons (kV_is h) (items_are t)
abbrev KT (H : Hp) : List (List Key × V) → List (List Key × Addr × Value) → Prop := Paired fun p q => p.1 = q.1 ∧ H q.2.1 = some (.tup (p.1.map kV)) ∧ RelV p.2 q.2.2
theorem KT.val {H : Hp} {kvs : List (List Key × V)} {xs : List (List Key × Addr × Value)} (r : KT H kvs xs) (k : List Key) : RelO (valV kvs k) ((atKey xs k).map (·.2)) := by
  induction r with
  | nil => exact True.intro
  | @cons p q ps qs h t ih =>
    obtain ⟨h1, _, h2⟩ := h
    by_cases e : p.1 = k
    · have e' : q.1 = k := h1.symm.trans e
      have b : atKey (q :: qs) k = some q.2 := by simp [atKey, List.find?_cons, e']
      rw [valV_pos e, b]; exact h2
    · have e' : ¬ q.1 = k := fun z => e (h1.trans z)
      have b : atKey (q :: qs) k = atKey qs k := by simp [atKey, List.find?_cons, e']
      rw [valV_neg e, b]; exact ih
theorem KT.repl {H : Hp} {kvs : List (List Key × V)} {xs : List (List Key × Addr × Value)} (r : KT H kvs xs) (k : List Key) {y : V} {u : Value} (ry : RelV y u) :
    KT H (kvs.map fun kv => if kv.1 = k then (kv.1, y) else kv) (xs.map (putAt k u)) := by
  induction r with
  | nil => exact .nil
  | @cons p q ps qs h t ih =>
    rw [List.map_cons, List.map_cons]
    refine .cons ?_ ih
    obtain ⟨h1, h2, h3⟩ := h
    unfold putAt
    by_cases e : p.1 = k
    · rw [if_pos e, if_pos (h1.symm.trans e)]; exact ⟨h1, h2, ry⟩
    · rw [if_neg e, if_neg (fun z => e (h1.trans z))]; exact ⟨h1, h2, h3⟩
theorem KT.put {H : Hp} {kvs : List (List Key × V)} {xs : List (List Key × Addr × Value)} (r : KT H kvs xs) (k : List Key) {b : Addr} {y : V} {u : Value} (hb : H b = some (.tup (k.map kV))) (ry : RelV y u) :
    KT H (putK kvs k y) (storedH xs k b u) := by
  have e : (kvs.any fun kv => decide (kv.1 = k)) = (atKey xs k).isSome := by
    rw [valV_any, (r.val k).isSome_eq, Option.isSome_map]
  unfold putK storedH
  rw [e]
  by_cases q : (atKey xs k).isSome = true
  · rw [if_pos q, if_pos q]; exact r.repl k ry
  · rw [if_neg q, if_neg q]; exact Paired.snoc r ⟨rfl, hb, ry⟩
theorem KT.keeps {H H' : Hp} {kvs : List (List Key × V)} {xs : List (List Key × Addr × Value)} (r : KT H kvs xs) (ht : ∀ b ys, H b = some (.tup ys) → H' b = some (.tup ys)) : KT H' kvs xs :=
  Paired.mapP r fun _ _ z => ⟨z.1, ht _ _ z.2.1, z.2.2⟩
section
variable {P : Program} {w : World} {H : Hp} {h : Heap} {a : Addr}
theorem rd_of {u : HO} (ok : HOk P w H h) (e : Rd H a u) : ObjOk P w H h a u := e.ok ok
theorem dk_rd {kvs : List (Key × V)} (ok : HOk P w H h) (e : Rd H a (.dK kvs)) : kvs.length ≤ sizeLine ∧ (a == sysModules) = false ∧ ∃ vs, KV kvs vs ∧ h.DictOf (mixKind P w) a vs :=
  show ObjOk P w H h a (.dK kvs) from rd_of ok e
theorem dk_of {kvs : List (Key × V)} (ok : HOk P w H h) (e : H a = some (.dK kvs)) : kvs.length ≤ sizeLine ∧ (a == sysModules) = false ∧ ∃ vs, KV kvs vs ∧ h.DictOf (mixKind P w) a vs := dk_rd ok (.inl e)
theorem key_of {ks : List Key} (ok : HOk P w H h) (e : H a = some (.tup (ks.map kV))) : (tupleKind (mixKind P w)).is h ks a := by
  obtain ⟨_, its, r, o, h1, h2, n, h3⟩ := (show ObjOk P w H h a (.tup (ks.map kV)) from ok a _ e)
  exact ⟨o, its.toArray, n, h1, h2, h3, by simpa using items_are r⟩
theorem dt_rd {kvs : List (List Key × V)} (ok : HOk P w H h) (e : Rd H a (.dT kvs)) : kvs.length ≤ sizeLine ∧ (a == sysModules) = false ∧
    ∃ xs, KT H kvs xs ∧ h.DictOfH (tupleKind (mixKind P w)) a xs := by
  obtain ⟨z, y, xs, r, o, es, ep, h1, h2, h3, h4, h5⟩ := (show ObjOk P w H h a (.dT kvs) from rd_of ok e)
  refine ⟨z, y, xs, r, o, es, ep, h1, h2, h3, h4, fun x hx => ?_, h5⟩
  have all : ∀ {l : List (List Key × V)} {m : List (List Key × Addr × Value)}, KT H l m → ∀ x ∈ m, (tupleKind (mixKind P w)).is h x.1 x.2.1 := by
    intro l m q
    induction q with
    | nil => intro x hx; exact nomatch hx
    | @cons p q ps qs hq t ih =>
      intro x hx
      rcases List.mem_cons.mp hx with e | hx
      · subst e
        exact key_of ok (by rw [← hq.1]; exact hq.2.1)
      · exact ih x hx
  exact all r x hx
theorem dt_of {kvs : List (List Key × V)} (ok : HOk P w H h) (e : H a = some (.dT kvs)) : kvs.length ≤ sizeLine ∧ (a == sysModules) = false ∧
    ∃ xs, KT H kvs xs ∧ h.DictOfH (tupleKind (mixKind P w)) a xs := dt_rd ok (.inl e)
end
def DGet (H : Hp) (a : Addr) (y : V) (r : Option V) : Prop :=
  (∃ kvs k, Rd H a (.dK kvs) ∧ y = kV k ∧ r = valV kvs k) ∨ ∃ kvs k b, Rd H a (.dT kvs) ∧ y = .ref b ∧ H b = some (.tup (k.map kV)) ∧ r = valV kvs k
def DPut (H : Hp) (a : Addr) (y v : V) (H' : Hp) : Prop :=
  (∃ kvs k, H a = some (.dK kvs) ∧ y = kV k ∧ kvs.length < sizeLine ∧ H' = upd H a (.dK (putK kvs k v))) ∨
  ∃ kvs k b, H a = some (.dT kvs) ∧ y = .ref b ∧ H b = some (.tup (k.map kV)) ∧ kvs.length < sizeLine ∧ H' = upd H a (.dT (putK kvs k v))
theorem DGet.k {H : Hp} {a : Addr} {kvs : List (Key × V)} {k : Key} (e : H a = some (.dK kvs)) : DGet H a (kV k) (valV kvs k) := .inl ⟨kvs, k, .inl e, rfl, rfl⟩
theorem DGet.t {H : Hp} {a b : Addr} {kvs : List (List Key × V)} {k : List Key} (e : H a = some (.dT kvs)) (eb : H b = some (.tup (k.map kV))) : DGet H a (.ref b) (valV kvs k) := .inr ⟨kvs, k, b, .inl e, rfl, eb, rfl⟩
theorem DPut.k {H : Hp} {a : Addr} {kvs : List (Key × V)} {k : Key} {v : V} (e : H a = some (.dK kvs)) (hl : kvs.length < sizeLine) : DPut H a (kV k) v (upd H a (.dK (putK kvs k v))) := .inl ⟨kvs, k, e, rfl, hl, rfl⟩
theorem DPut.t {H : Hp} {a b : Addr} {kvs : List (List Key × V)} {k : List Key} {v : V} (e : H a = some (.dT kvs)) (eb : H b = some (.tup (k.map kV))) (hl : kvs.length < sizeLine) :
    DPut H a (.ref b) v (upd H a (.dT (putK kvs k v))) := .inr ⟨kvs, k, b, e, rfl, eb, hl, rfl⟩
section
variable {X : Cx} {pins : List (Addr × Obj)} {σ : St} {H : Hp} {s : Shared} {a : Addr} {y v : V} {u r : Value} {o : Option V} {A : Around} {E : Value → Shared → Prop}
theorem Inv.big (I : Inv X pins σ H s) : sysModules < s.heap.objs.size := by
  have h : mainGlobals < s.heap.objs.size := (I.mod.glob.keeps I.bk).lt
  exact Nat.lt_trans (by decide) h
theorem d_getItem {Q : Value → Shared → Prop} (hu : A.units + 1 < cLine) (I : Inv X pins σ H s) (g : DGet H a y (some v)) (ry : RelV y u) (h : ∀ w' s', Inv X pins σ H s' → RelV v w' → Q w' s') :
    wpAny (model X.prog X.w) A (getItem (.ref a) u) Q E s := by
  rcases g with ⟨kvs, k, e, ey, l⟩ | ⟨kvs, k, b, e, ey, eb, l⟩
  · subst ey
    obtain ⟨z, hd, vs, rel, dd⟩ := dk_rd I.hok e
    obtain ⟨w', hw, rw'⟩ := RelO.some_of (v := v) (o := valueAt vs k) (by rw [l]; exact rel.val k)
    exact wpAny_getItem_of (kV_is ry) dd.mapOf hw (h w' _ (I.tok _) rw')
  · subst ey
    cases (show u = Value.ref b from ry)
    obtain ⟨z, hd, xs, rel, dd⟩ := dt_rd I.hok e
    obtain ⟨w', hw, rw'⟩ := RelO.some_of (v := v) (o := (atKey xs k).map (·.2)) (by rw [l]; exact rel.val k)
    obtain ⟨p, hp, hp2⟩ := Option.map_eq_some_iff.mp hw
    refine wpAny_getItem_heap (tupleKind_room_in1 hu) (key_of I.hok eb) dd hp ?_
    rw [hp2]
    exact h w' _ (I.tok _) rw'
theorem d_write {h' : Heap} {t' : Nat} {ob : HO} (I : Inv X pins σ H s) (mu : Mut (H a)) (hs : Heap.SameBut a s.heap h') (he : ∃ q, h'.get? a = some q) (new : ObjOk X.prog X.w (upd H a ob) h' a ob) :
    Inv X pins σ (upd H a ob) { s with heap := h', toks := t' } :=
  I.write (x := a) (e := a) mu (.inl rfl) (fun b q hb z => (hs.2 b hb).trans z) he new
theorem dk_new {P : Program} {w : World} {H' : Hp} {h' : Heap} {kvs : List (Key × V)} {vs : List (Key × Value)} (z : kvs.length ≤ sizeLine) (hd : (a == sysModules) = false) (rel : KV kvs vs) (dd : h'.DictOf (mixKind P w) a vs) :
    ObjOk P w H' h' a (.dK kvs) := ⟨z, hd, vs, rel, dd⟩
theorem d_setItem {H' : Hp} {Q : Unit → Shared → Prop} (hu : A.units + 1 < cLine) (I : Inv X pins σ H s) (g : DPut H a y v H') (ry : RelV y u) (rv : RelV v r) (h : ∀ s', Inv X pins σ H' s' → Q () s') :
    wpAny (model X.prog X.w) A (setItem (.ref a) u r) Q E s := by
  rcases g with ⟨kvs, k, e, ey, l, eH⟩ | ⟨kvs, k, b, e, ey, eb, l, eH⟩
  · subst ey eH
    obtain ⟨z, hd, vs, rel, dd⟩ := dk_of I.hok e
    have hz : vs.length ≤ sizeLine := by rw [← rel.length]; exact z
    have hl : (putK kvs k v).length ≤ sizeLine := by have := length_putK kvs k v; omega
    refine wpAny_setItem_pairs (hsz := hz) (kV_is ry) dd fun h' dd' hs => h _ ?_
    have he : ∃ q, h'.get? a = some q := let ⟨q, _, _, hq, _⟩ := dd'; ⟨q, hq⟩
    exact d_write I (by rw [e]; exact True.intro) hs he (dk_new hl hd (rel.put k rv) dd')
  · subst ey eH
    cases (show u = Value.ref b from ry)
    obtain ⟨z, hd, xs, rel, dd⟩ := dt_of I.hok e
    have hz : xs.length ≤ sizeLine := by rw [← Paired.length rel]; exact z
    have hl : (putK kvs k v).length ≤ sizeLine := by have := length_putK kvs k v; omega
    refine wpAny_setItem_heap (hsz := hz) (tupleKind_room_in1 hu) (key_of I.hok eb) dd fun h' dd' hs => h _ ?_
    obtain ⟨q, es, ep, hq, h2, h3, h4, _, h5⟩ := dd'
    refine d_write I (by rw [e]; exact True.intro) hs ⟨q, hq⟩ ⟨hl, hd, _, (rel.put k eb rv).keeps fun c ys ec => ?_, q, es, ep, hq, h2, h3, h4, h5⟩
    rw [upd_ne (ne_of ec e (fun z => nomatch z))]
    exact ec
end
section
variable {X : Cx} {pins : List (Addr × Obj)} {σ : St} {H : Hp} {s : Shared} {a : Addr} {kvs : List (Key × V)} {k : Key} {u : Value} {A : Around} {E : Value → Shared → Prop}
theorem d_len {Q : Value → Shared → Prop} (I : Inv X pins σ H s) (e : Rd H a (.dK kvs)) (h : ∀ t s', Inv X pins σ H s' → Q (.int kvs.length t) s') : wpAny (model X.prog X.w) A (call (.builtin "len") [.ref a]) Q E s := by
  obtain ⟨z, hd, vs, rel, dd⟩ := dk_rd I.hok e
  refine call_len_dict hd dd (by rw [← rel.length]; rw [sizeLine_eq] at z; omega) ?_
  rw [← rel.length]
  exact h _ _ (I.tok _)
end
def NoSl (i : Expr) : Prop := ∀ ov iv, subscripted i false ov iv = operate [ov, iv] (getItem ov iv)
theorem subD_of {prog : Program} {w : World} {A : Around} {E : Value → Shared → Prop} {s : Shared} {env : Env} {value slice : Expr} {pos : Pos} {T id : String} {Q : Value → Shared → Prop}
    (hl : typeLookup (.type T) "__getitem__" = pure (some (.builtin id))) (hs : NoSl slice)
    (h : wpAny (model prog w) A (eval value env) (fun o s₁ => wpAny (model prog w) A (eval slice env) (fun i s₂ => s₂.TypeIs o T ∧ wpAny (model prog w) A (getItem o i) Q E s₂) E s₁) E s) :
    wpAny (model prog w) A (eval (.Subscript value slice pos) env) Q E s := by
  refine Subscript_ (wpAny_mono h (fun o s₁ h₁ => wpAny_mono h₁ (fun i s₂ h₂ => ?_) fun _ _ x => x) fun _ _ x => x)
  obtain ⟨hT, h₂⟩ := h₂
  unfold subscriptTail
  refine wpAny_bind ?_
  rw [getitemInPython_of_ne hT.not_modules]
  refine wpAny_bind (wpAny_specialOf hT hl ?_)
  have fin : wpAny (model prog w) A (subscripted slice false o i) (fun r s₃ => wpAny (model prog w) A (letTemporaryGo value o r >>= fun _ => pure r) Q E s₃) E s₂ := by
    rw [hs o i]
    exact wpAny_operating (wpAny_mono h₂ (fun r s₃ h₃ => wpAny_bind (wpAny_letTemporaryGo (wpAny_pure h₃))) fun _ _ x => x)
  first
    | exact wpAny_pure (wpAny_bind fin)
    | exact wpAny_bind (wpAny_pure (wpAny_bind fin))
    | exact wpAny_bind fin
theorem dict_typeIs {X : Cx} {pins : List (Addr × Obj)} {σ : St} {H : Hp} {s : Shared} {a : Addr} {y : V} {o : Option V} (I : Inv X pins σ H s) (g : DGet H a y o) : s.TypeIs (.ref a) "dict" := by
  rcases g with ⟨kvs, k, e, _, _⟩ | ⟨kvs, k, b, e, _, _, _⟩
  · obtain ⟨_, _, vs, _, dd⟩ := dk_rd I.hok e
    exact dd.typeIs
  · obtain ⟨_, _, xs, _, dd⟩ := dt_rd I.hok e
    exact dd.typeIs
section
variable {X : Cx} {o i e value : Expr} {pos pos' tpos : Pos} {td ty tv : TE}
end
theorem dk_empty {P : Program} {w : World} {H : Hp} (h : Heap) (hb : sysModules < h.objs.size) : ObjOk P w H (h.push { cls := .type "dict", data := .dict #[] }) h.objs.size (.dK []) :=
  ⟨Nat.zero_le _, beq_eq_false_iff_ne.mpr (Ne.symm (Nat.ne_of_lt hb)), [], .nil, Heap.DictOf.new h⟩
section
variable {X : Cx} {pos : Pos}
end
def tPairs : List (TE × TE) → St → Hp → (List (V × V) → Hp → Prop) → Prop
  | [], _, H, Q => Q [] H
  | (tk, tv) :: r, σ, H, Q => tk σ H fun x H1 => tv σ H1 fun y H2 => tPairs r σ H2 fun ps H3 => Q ((x, y) :: ps) H3
abbrev VV : List (V × V) → List (Value × Value) → Prop := Paired fun p q => RelV p.1 q.1 ∧ RelV p.2 q.2
def PPs (X : Cx) (pos : Pos) (keys : List (Option Expr)) (values : List Expr) (trs : List (TE × TE)) : Prop :=
  ∀ (pins : List (Addr × Obj)) (s : Shared) (σ : St) (H : Hp) (Q : List (V × V) → Hp → Prop), Inv X pins σ H s → tPairs trs σ H Q →
    wpAny (model X.prog X.w) X.A (evalPairs (pairTrees keys values X.env pos)) (fun vs s' => ∃ ps H', Inv X pins σ H' s' ∧ VV ps vs ∧ Q ps H') X.xe s
theorem pps_nil {X : Cx} {pos : Pos} : PPs X pos [] [] [] := fun pins s σ H Q I h => pairTrees_nil_walk ⟨[], H, I, .nil, h⟩
theorem pps_cons {X : Cx} {pos : Pos} {k v : Expr} {ks : List (Option Expr)} {vs : List Expr} {tk tv : TE} {trs : List (TE × TE)} (hk : PE X k tk) (hv : PE X v tv) (hr : PPs X pos ks vs trs) :
    PPs X pos (some k :: ks) (v :: vs) ((tk, tv) :: trs) := fun pins s σ H Q I h =>
  pairTrees_cons_walk (thn (hk pins s σ H _ I h) fun u s1 ⟨x, H1, I1, rx, q1⟩ => thn (hv pins s1 σ H1 _ I1 q1) fun w2 s2 ⟨y, H2, I2, ry, q2⟩ =>
    thn (hr pins s2 σ H2 _ I2 q2) fun ws s3 ⟨ps, H3, I3, rel, q3⟩ => ⟨(x, y) :: ps, H3, I3, .cons ⟨rx, ry⟩ rel, q3⟩)
def mergeK (kvs more : List (Key × V)) : List (Key × V) := more.foldl (fun acc kv => putK acc kv.1 kv.2) kvs
theorem KV.merge : ∀ {more : List (Key × V)} {rs : List (Key × Value)} {kvs : List (Key × V)} {vs : List (Key × Value)}, KV more rs → KV kvs vs → KV (mergeK kvs more) (merged vs rs) := by
  intro more rs kvs vs r
  unfold KV at r
  induction r generalizing kvs vs with
  | nil => intro q; exact q
  | @cons p q ps qs h t ih =>
    intro r0
    have e : KV (putK kvs p.1 p.2) (stored vs q.1 q.2) := by
      have := r0.put p.1 h.2
      rw [← h.1]; exact this
    exact ih e
theorem length_mergeK : ∀ (more kvs : List (Key × V)), (mergeK kvs more).length ≤ kvs.length + more.length
  | [], kvs => by show kvs.length ≤ kvs.length + 0; omega
  | p :: r, kvs => by
    have h1 := length_mergeK r (putK kvs p.1 p.2)
    have h2 := length_putK kvs p.1 p.2
    show (mergeK (putK kvs p.1 p.2) r).length ≤ _
    rw [List.length_cons]; omega
theorem carries_of {P : Program} {w : World} : ∀ {kvs : List (Key × V)} {ws : List (Value × Value)}, VV (kvs.map fun kv => (kV kv.1, kv.2)) ws → ∃ rs, Carries (mixKind P w) ws rs ∧ KV kvs rs
  | [], _, r => by rw [List.map_nil] at r; cases r; exact ⟨[], True.intro, .nil⟩
  | p :: kvs, _, r => by
    rw [List.map_cons] at r
    cases r with
    | @cons a b as bs h t =>
      obtain ⟨rs, c, q⟩ := carries_of (P := P) (w := w) t
      obtain ⟨b1, b2⟩ := b
      exact ⟨(p.1, b2) :: rs, ⟨kV_is h.1, rfl, c⟩, .cons ⟨rfl, h.2⟩ q⟩
def tDisp (trs : List (TE × TE)) : TE := fun σ H Q => ∀ p, H p = none → tPairs trs σ (upd H p (.dK [])) fun ps H2 => H2 p = some (.dK []) ∧ ∃ kvs : List (Key × V), ps = kvs.map (fun kv => (kV kv.1, kv.2)) ∧ kvs.length ≤ 15 ∧ Q (.ref p) (upd H2 p (.dK (mergeK [] kvs)))
theorem pe_disp {X : Cx} {pos : Pos} {keys : List (Option Expr)} {values : List Expr} {trs : List (TE × TE)} (h : PPs X pos keys values trs) (hall : keys.all (·.isSome) = true) (hl : keys.length = values.length) (h0 : keys ≠ [])
    (h15 : keys.length ≤ 15) : PE X (.Dict keys values pos) (tDisp trs) := by
  intro pins s σ H Q I q
  have hn := I.hok.fresh (Nat.le_refl s.heap.objs.size)
  have I1 := I.laid (a := s.heap.objs.size) (o := .dK []) (h' := s.heap.push { cls := .type "dict", data := .dict #[] }) (t' := s.toks) (fun _ _ q => Heap.get?_push_of_some _ q) (Nat.le_refl _) (dk_empty s.heap I.big)
  refine wpAny_Dict_walk (knd := mixKind X.prog X.w) hall hl h0 h15 (thn (h pins _ σ _ _ I1 (q _ hn)) fun ws s2 ⟨ps, H2, I2, rel, e, kvs, ep, lk, q2⟩ => ?_)
  subst ep
  obtain ⟨rs, c, rk⟩ := carries_of (P := X.prog) (w := X.w) rel
  obtain ⟨z, hd, vs0, r0, dd⟩ := dk_of I2.hok e
  cases r0
  refine ⟨rs, c, dd, fun h' dd' hs => ⟨.ref s.heap.objs.size, _, ?_, rfl, q2⟩⟩
  have hz : (mergeK [] kvs).length ≤ sizeLine := by
    have h1 := length_mergeK kvs []
    rw [List.length_nil] at h1
    rw [sizeLine_eq]; omega
  have he : ∃ q, h'.get? s.heap.objs.size = some q := let ⟨q, _, _, hq, _⟩ := dd'; ⟨q, hq⟩
  exact d_write I2 (by rw [e]; exact True.intro) hs he (dk_new hz hd (rk.merge .nil) dd')
structure M1 (X : Cx) (o : Expr) (m : Str) (apos : Pos) (e : Expr) (cpos : Pos) : Prop where
  base : attributeBase o m X.env (eval o X.env) = eval o X.env
  few : ((backTo cpos (starEach [e] X.env)).all (fun x => !x.1) && (backToKw cpos (keywordEach [] X.env)).all (fun x => x.1.isSome)
    && decide (([e] : List Expr).length + ([] : List Keyword).length + (if ([] : List Keyword).isEmpty then 0 else 1) < 30)) = true
  line : (apos.endLine == cpos.line) = true
  trees : backTo cpos (starEach [e] X.env) = [(false, eval e X.env)]
structure M2 (X : Cx) (o : Expr) (m : Str) (apos : Pos) (e f : Expr) (cpos : Pos) : Prop where
  base : attributeBase o m X.env (eval o X.env) = eval o X.env
  few : ((backTo cpos (starEach [e, f] X.env)).all (fun x => !x.1) && (backToKw cpos (keywordEach [] X.env)).all (fun x => x.1.isSome)
    && decide (([e, f] : List Expr).length + ([] : List Keyword).length + (if ([] : List Keyword).isEmpty then 0 else 1) < 30)) = true
  line : (apos.endLine == cpos.line) = true
  trees : backTo cpos (starEach [e, f] X.env) = [(false, eval e X.env), (false, eval f X.env)]
def IsD (H : Hp) (a : Addr) : Prop := (∃ kvs, Rd H a (.dK kvs)) ∨ ∃ kvs, Rd H a (.dT kvs)
theorem isD_at {X : Cx} {pins : List (Addr × Obj)} {σ : St} {H : Hp} {s : Shared} {a : Addr} (I : Inv X pins σ H s) (d : IsD H a) :
    s.TypeIs (.ref a) "dict" ∧ (∀ b, Value.ref a = .ref b → ∃ ob, s.heap.get? b = some ob ∧ ob.dict = none) ∧ (a == sysModules) = false := by
  rcases d with ⟨kvs, e⟩ | ⟨kvs, e⟩
  · obtain ⟨_, hd, vs, _, dd⟩ := dk_rd I.hok e
    refine ⟨dd.typeIs, fun b q => ?_, hd⟩
    cases q
    obtain ⟨ob, _, _, h1, h2, _⟩ := dd
    exact ⟨ob, h1, h2.2.1⟩
  · obtain ⟨_, hd, xs, _, dd⟩ := dt_rd I.hok e
    refine ⟨dd.typeIs, fun b q => ?_, hd⟩
    cases q
    obtain ⟨ob, _, _, h1, h2, _⟩ := dd
    exact ⟨ob, h1, h2.2.1⟩
section
variable {X : Cx} {pins : List (Addr × Obj)} {σ : St} {H : Hp} {s : Shared} {a : Addr} {y d : V} {u r : Value} {o : Option V} {A : Around} {E : Value → Shared → Prop}
theorem d_get1 {Q : Value → Shared → Prop} (hu : A.units + 1 < cLine) (I : Inv X pins σ H s) (g : DGet H a y o) (ry : RelV y u) (h : ∀ w' s', Inv X pins σ H s' → RelV (o.getD .non) w' → Q w' s') :
    wpAny (model X.prog X.w) A (call (.builtin "dict.get") [.ref a, u]) Q E s := by
  rcases g with ⟨kvs, k, e, ey, l⟩ | ⟨kvs, k, b, e, ey, eb, l⟩
  · subst ey
    obtain ⟨z, hd, vs, rel, dd⟩ := dk_rd I.hok e
    refine call_meetsIn PySem.F.slot_dict_get dd.typeIs PySem.F.entry_dict_get (PySem.F.args_dict_get_2 _ _) (meets_dict_get (mixKind X.prog X.w) a (kV_is ry) hd) ⟨_, dd.mapOf, h _ _ (I.tok _) ?_⟩
    rw [l]
    exact (rel.val k).getD rfl
  · subst ey
    cases (show u = Value.ref b from ry)
    obtain ⟨z, hd, xs, rel, dd⟩ := dt_rd I.hok e
    refine call_meetsIn PySem.F.slot_dict_get dd.typeIs PySem.F.entry_dict_get (PySem.F.args_dict_get_2 _ _) (meetsH_dict_get (tupleKind (mixKind X.prog X.w)) a b hd) ⟨tupleKind_room_in1 hu, k, xs, key_of I.hok eb, dd, h _ _ (I.tok _) ?_⟩
    rw [l]
    exact (rel.val k).getD rfl
theorem d_get2 {Q : Value → Shared → Prop} (hu : A.units + 1 < cLine) (I : Inv X pins σ H s) (g : DGet H a y o) (ry : RelV y u) (rd : RelV d r) (h : ∀ w' s', Inv X pins σ H s' → RelV (o.getD d) w' → Q w' s') :
    wpAny (model X.prog X.w) A (call (.builtin "dict.get") [.ref a, u, r]) Q E s := by
  rcases g with ⟨kvs, k, e, ey, l⟩ | ⟨kvs, k, b, e, ey, eb, l⟩
  · subst ey
    obtain ⟨z, hd, vs, rel, dd⟩ := dk_rd I.hok e
    refine call_meetsIn PySem.F.slot_dict_get dd.typeIs PySem.F.entry_dict_get (PySem.F.args_dict_get_3 _ _ _) (meets_dict_get_default (mixKind X.prog X.w) a (kV_is ry) hd r) ⟨_, dd.mapOf, h _ _ (I.tok _) ?_⟩
    rw [l]
    exact (rel.val k).getD rd
  · subst ey
    cases (show u = Value.ref b from ry)
    obtain ⟨z, hd, xs, rel, dd⟩ := dt_rd I.hok e
    refine call_meetsIn PySem.F.slot_dict_get dd.typeIs PySem.F.entry_dict_get (PySem.F.args_dict_get_3 _ _ _) (meetsH_dict_get_default (tupleKind (mixKind X.prog X.w)) a b hd r) ⟨tupleKind_room_in1 hu, k, xs, key_of I.hok eb, dd, h _ _ (I.tok _) ?_⟩
    rw [l]
    exact (rel.val k).getD rd
end
def tDGet1 (td ty : TE) : TE := fun σ H Q => td σ H fun x H1 => ∃ a, x = .ref a ∧ IsD H1 a ∧ ty σ H1 fun y H2 => ∃ o, DGet H2 a y o ∧ Q (o.getD .non) H2
def tDGet2 (td ty tx : TE) : TE := fun σ H Q => td σ H fun x H1 => ∃ a, x = .ref a ∧ IsD H1 a ∧ ty σ H1 fun y H2 => tx σ H2 fun z H3 => ∃ o, DGet H3 a y o ∧ Q (o.getD z) H3
section
variable {X : Cx} {o e f : Expr} {apos cpos : Pos} {td ty tx : TE}
theorem pe_dget1 (hu : X.A.units + 1 < cLine) (ho : PE X o td) (he : PE X e ty) (m : M1 X o "get" apos e cpos) : PE X (.Call (.Attribute o "get" apos) [e] [] cpos) (tDGet1 td ty) := by
  intro pins s σ H Q I h
  refine wpAny_Call_method m.base m.few m.line PySem.F.plainAttrs_dict PySem.F.slot_dict_get PySem.F.type_dict_get (thn (ho pins s σ H _ I h) fun u s1 ⟨x, H1, I1, rx, a, ex, d, q1⟩ => ?_)
  subst ex
  obtain rfl : u = Value.ref a := rx
  obtain ⟨t1, t2, _⟩ := isD_at I1 d
  refine ⟨t1, t2, ?_⟩
  rw [m.trees]
  refine Calls.callWith_builtin rfl (Calls.evalArgs_plain (Calls.spliced_cons (thn (he pins s1 σ H1 _ I1 q1) fun iv s2 ⟨y, H2, I2, ry, ov, g, q2⟩ => Calls.spliced_nil ?_)))
  exact d_get1 hu I2 g ry fun w' s3 I3 rw' => ⟨_, H2, I3, rw', q2⟩
theorem pe_dget2 (hu : X.A.units + 1 < cLine) (ho : PE X o td) (he : PE X e ty) (hf : PE X f tx) (m : M2 X o "get" apos e f cpos) : PE X (.Call (.Attribute o "get" apos) [e, f] [] cpos) (tDGet2 td ty tx) := by
  intro pins s σ H Q I h
  refine wpAny_Call_method m.base m.few m.line PySem.F.plainAttrs_dict PySem.F.slot_dict_get PySem.F.type_dict_get (thn (ho pins s σ H _ I h) fun u s1 ⟨x, H1, I1, rx, a, ex, d, q1⟩ => ?_)
  subst ex
  obtain rfl : u = Value.ref a := rx
  obtain ⟨t1, t2, _⟩ := isD_at I1 d
  refine ⟨t1, t2, ?_⟩
  rw [m.trees]
  refine Calls.callWith_builtin rfl (Calls.evalArgs_plain (Calls.spliced_cons (thn (he pins s1 σ H1 _ I1 q1) fun iv s2 ⟨y, H2, I2, ry, q2⟩ =>
    Calls.spliced_cons (thn (hf pins s2 σ H2 _ I2 q2) fun fv s3 ⟨z, H3, I3, rz, ov, g, q3⟩ => Calls.spliced_nil ?_))))
  exact d_get2 hu I3 g ry rz fun w' s4 I4 rw' => ⟨_, H3, I4, rw', q3⟩
end
section
variable {X : Cx} {pins : List (Addr × Obj)} {σ : St} {H : Hp} {s : Shared} {a : Addr} {kvs : List (Key × V)} {A : Around} {E : Value → Shared → Prop}
end
section
variable {X : Cx} {pins : List (Addr × Obj)} {σ : St} {H : Hp} {s : Shared} {a : Addr} {y : V} {u : Value} {A : Around} {E : Value → Shared → Prop}
end
end L2
namespace L2
open PySem PySem.Spec PyProof.Rows
theorem list_keys_none : typeLookup (.type "list") "keys" = pure none := am_miss_of_fast (by first | decide +kernel | rfl)
theorem ud_entry : entryFor table "dict.update.loop" = some Builtin.«dict.update.loop» := entryFor_of_tree (by kernel_rfl)
theorem ud_plain : plainId "dict.update.loop" = true := by decide +kernel
section
variable {prog : Program} {w : World} {A : Around} {E : Value → Shared → Prop}
theorem miss_list {s : Shared} {a : Addr} {o : Obj} {xs : Array Value} {k : Nat} {Q : Option Value → Shared → Prop} (hx : s.heap.get? a = some o) (hc : o.cls = .type "list") (hdat : o.data = .seq xs k) (hd : o.dict = none) (hA : A.handled = none)
    (h : ∀ h' tk, (∀ b ob, s.heap.get? b = some ob → h'.get? b = some ob) → Q none { s with heap := h', toks := tk }) : wpAny (model prog w) A (getAttr? (.ref a) "keys") Q E s := by
  obtain ⟨c, dct, dat, sl⟩ := o
  simp only at hc hdat hd
  subst hc hdat hd
  obtain ⟨hp, g, d, tk, os⟩ := s
  have hT : ∀ tk', (⟨hp, g, d, tk', os⟩ : Shared).TypeIs (.ref a) "list" := fun _ => ⟨_, hx, rfl⟩
  have hmiss := list_keys_none
  have hname : (["__module__", "__name__", "__qualname__", "__doc__", "__annotations__"] : List Str).contains "keys" = false := by decide +kernel
  have hsz : ("keys" : Str).length + 100 ≤ sizeLine := by first | size_fits | decide +kernel
  have f1 := sub_AttributeError
  have f3 := PySem.F.slot_list_getattribute.lookup
  have f4 := PySem.F.slot_list_getattribute.bind (.ref a)
  have f5 := am_list_getattr_none
  unfold getAttr? getAttrBy? getAttrBy
  repeat (any_goals (first | assumption | exact hT _ | ((with_reducible show wpAny _ _ (call (Value.builtin "list.__getattribute__") _ _) _ _ _); refine call_meets PySem.F.slot_list_getattribute (hT _) am_entry_list_getattribute (PySem.F.args_list_getattribute_2 _ _) (meets_getattribute_miss_list a xs k sl "keys" _ hmiss hname hsz) ⟨hx, hA, fun h' tk' e hx' => ?_⟩) | wp_step))
  obtain ⟨t', u', he⟩ := hx'.there
  show wpAny _ _ (getattributeRaised _ _ _ _ _ _ _) _ _ _
  unfold getattributeRaised
  repeat (any_goals (first | assumption | wp_step))
  all_goals first | exact h _ _ hx'.keeps | (dsimp only; repeat (any_goals (first | assumption | exact h _ _ hx'.keeps | wp_step)))
theorem upd_loop {R : Result → Shared → Prop} {S I l : Addr} {items : Array Value} {res : Value} (hh : A.handled = none) (hlI : l ≠ I) (hSI : S ≠ I) (hSl : S ≠ l) :
    ∀ (rest : List (Key × Value)) (i : Nat) (acc : List (Key × Value)) (ix : Int) (t : Tok) (s : Shared), items.size = i + rest.length → acc.length + rest.length ≤ sizeLine →
      (∀ (j : Nat) (q : Key × Value), rest[j]? = some q → ∃ (b : Addr) (u : Value), items[i + j]? = some (.ref b) ∧ b ≠ S ∧ b ≠ I ∧ IsTup s.heap b #[u, q.2] ∧ keyIs q.1 u = true) →
      s.heap.IsListIter I l i → s.heap.IsList l items → s.heap.DictOf (mixKind prog w) S acc →
      (∀ h' tk, h'.DictOf (mixKind prog w) S (merged acc rest) → (∀ b o, b ≠ S → b ≠ I → s.heap.get? b = some o → h'.get? b = some o) → R (.ok (.ret res)) { s with heap := h', toks := tk }) →
      codeAny (model prog w) A (.builtin "dict.update.loop" ⟨[.ref S, .ref I, .int ix t, res], []⟩) R s
  | [], i, acc, ix, t, s, hsz, hln, ht, hit, hl, hm, hR => by
    refine codeAny_builtin ud_entry ?_
    rw [Around.under_plainId ud_plain _]
    show wpAny _ A.in1 (pyNext (.ref I) >>= _) _ _ s
    refine wpAny_bind (wpAny_pyNext_list_end (A := A.in1) hh hit hl (by first | exact Array.getElem?_eq_none (Nat.le_of_eq hsz) | (simp at hsz; simp; omega)) fun h' he => ?_)
    show wpAny _ A.in1 (Builtin.Dict.addKeywords S [] >>= _) _ _ _
    refine wpAny_bind (wpAny_pure (wpAny_pure ?_))
    exact hR h' s.toks (hm.extBut he hSI) fun b o _ hb e => he b o hb e
  | q :: rest, i, acc, ix, t, s, hsz, hln, ht, hit, hl, hm, hR => by
    obtain ⟨b, u, hb, hbS, hbI, htup, hk⟩ := ht 0 q rfl
    rw [List.length_cons] at hsz hln
    refine codeAny_builtin ud_entry ?_
    rw [Around.under_plainId ud_plain _]
    show wpAny _ A.in1 (pyNext (.ref I) >>= _) _ _ s
    refine wpAny_bind (wpAny_pyNext_list_item (x := .ref b) hit hl (by simpa using hb) fun h1 hit1 hs1 => ?_)
    have ht1 : IsTup h1 b #[u, q.2] := htup.extBut hs1.extBut hbI
    have hl1 : h1.IsList l items := hl.extBut hs1.extBut hlI
    have hm1 : h1.DictOf (mixKind prog w) S acc := hm.extBut hs1.extBut hSI
    obtain ⟨o, ho, hc, n, hd⟩ := id ht1
    show wpAny _ A.in1 (holding [Value.ref b] _ >>= _) _ _ _
    refine wpAny_bind (wpAny_holding ?_)
    refine wpAny_bind (wpAny_tryCatch ?_)
    unfold Builtin.Dict.pairItems
    refine wpAny_bind (wpAny_typeOf (T := "tuple") ⟨o, ho, hc⟩ ?_)
    rw [if_pos (by first | decide | rfl | simp)]
    refine wpAny_bind (wpAny_seqItems ho hd (wpAny_pure ?_))
    show wpAny _ A.in1 (holding [u, q.2] (dictSet S u q.2)) _ _ _
    refine wpAny_holding (wpAny_dictSet_pairs (knd := mixKind prog w) (k := q.1) hk hm1 (fun h2 hm2 hs2 => ?_) (by omega))
    refine wpAny_pure ⟨plainId_quiet ud_plain _, upd_loop (items := items) hh hlI hSI hSl rest (i + 1) (stored acc q.1 q.2) (ix + 1) 0 _ (show items.size = i + 1 + rest.length by omega) ?_ (fun j q' e => ?_) ?_ ?_ hm2 fun h' tk hd' k => ?_⟩
    · have z := stored_length_le acc q.1 q.2
      omega
    · obtain ⟨b', u', hb', hbS', hbI', htup', hk'⟩ := ht (j + 1) q' (by simpa using e)
      refine ⟨b', u', ?_, hbS', hbI', (htup'.extBut hs1.extBut hbI').extBut hs2.extBut hbS', hk'⟩
      rw [show i + 1 + j = i + (j + 1) by omega]
      exact hb'
    · exact hit1.at fun o' e => hs2.extBut I o' (Ne.symm hSI) e
    · exact hl1.extBut hs2.extBut (Ne.symm hSl)
    · exact hR h' tk hd' fun c oc h3 h4 e => k c oc h3 h4 (hs2.extBut c oc h3 (hs1.extBut c oc h4 e))
theorem call_dict_pairs {s : Shared} {l : Addr} {ol : Obj} {items : Array Value} {n : Nat} {prs : List (Key × Value)} {Q : Value → Shared → Prop} (hh : A.handled = none) (hl : s.heap.get? l = some ol) (hc : ol.cls = .type "list") (hd : ol.dict = none)
    (hdat : ol.data = .seq items n) (hsz : items.size = prs.length) (hln : prs.length ≤ sizeLine)
    (ht : ∀ (j : Nat) (q : Key × Value), prs[j]? = some q → ∃ (b : Addr) (u : Value), items[j]? = some (.ref b) ∧ IsTup s.heap b #[u, q.2] ∧ keyIs q.1 u = true)
    (h : ∀ h' tk, h'.DictOf (mixKind prog w) s.heap.objs.size (merged [] prs) → (∀ b o, s.heap.get? b = some o → h'.get? b = some o) → Q (.ref s.heap.objs.size) { s with heap := h', toks := tk }) :
    wpAny (model prog w) A (call (.type "dict") [.ref l]) Q E s := by
  refine callType_codes (Q₁ := fun obj s₁ => obj = .ref s.heap.objs.size ∧ s₁ = { s with heap := s.heap.push { cls := .type "dict", data := .dict #[] } }) PySem.F.kt_called_dict (PySem.F.kt_typeCall_dict_1 _) PySem.F.entry_dict_init (kt_code_dict_new _ ⟨rfl, rfl⟩) ?_
  rintro obj s₁ ⟨rfl, rfl⟩
  have hnew : (s.heap.push { cls := .type "dict", data := .dict #[] }).DictOf (mixKind prog w) s.heap.objs.size [] := Heap.DictOf.new s.heap
  have k0 : ∀ b o, s.heap.get? b = some o → (s.heap.push { cls := .type "dict", data := .dict #[] }).get? b = some o := fun b o e => Heap.get?_push_of_some _ e
  refine ⟨hnew.typeIs, PySem.F.args_dict_init_2 _ _, ?_⟩
  unfold Builtin.«dict.__init__»
  refine wpAny_bind ?_
  unfold Builtin.Dict.selfAndRest
  refine wpAny_bind (wpAny_notOrdered_dict hnew.typeIs ?_)
  show wpAny _ _ (pure (s.heap.objs.size, [Value.ref l])) _ _ _
  refine wpAny_pure ?_
  show wpAny _ _ (Builtin.Dict.updateFrom "dict.__init__" s.heap.objs.size (.ref l) [] .none) _ _ _
  unfold Builtin.Dict.updateFrom
  refine wpAny_bind (wpAny_typeOf (T := "list") ⟨ol, k0 _ _ hl, hc⟩ ?_)
  rw [if_pos (by first | decide | rfl | simp)]
  refine wpAny_bind (miss_list (k0 _ _ hl) hc hdat hd hh fun h1 tk1 hk1 => ?_)
  rw [if_pos (show (none : Option Value).isNone = true from rfl)]
  refine wpAny_bind (wpAny_rule ?_)
  have hl1 : h1.IsList l items := ⟨ol, hk1 _ _ (k0 _ _ hl), hc, n, hdat⟩
  have hS1 : s.heap.objs.size < h1.objs.size := by
    have e : (s.heap.push { cls := .type "dict", data := .dict #[] }).get? s.heap.objs.size = some { cls := .type "dict", data := .dict #[] } := Heap.get?_push_size _ rfl
    exact Heap.lt_size (hk1 _ _ e)
  refine wpAny_bind (wpAny_pyIter_list hl1 ?_)
  have k2 : ∀ b o, h1.get? b = some o → (h1.push { cls := .type "list_iterator", data := .fields #[.ref l, .int 0 0] }).get? b = some o := fun b o e => Heap.get?_push_of_some _ e
  have hlt : l < s.heap.objs.size := Heap.lt_size hl
  have key := upd_loop (prog := prog) (w := w) (A := A.in1) (R := wants (fun r s₂ => r = .none ∧ Q (.ref s.heap.objs.size) s₂) E) (S := s.heap.objs.size) (I := h1.objs.size) (l := l) (items := items) (res := Value.none) hh
    (Nat.ne_of_lt (Nat.lt_trans hlt hS1)) (Nat.ne_of_lt hS1) (Nat.ne_of_gt hlt) prs 0 [] 0 0
    { s with heap := h1.push { cls := .type "list_iterator", data := .fields #[.ref l, .int 0 0] }, toks := tk1 } (by rw [hsz, Nat.zero_add]) (by rw [List.length_nil, Nat.zero_add]; exact hln)
    (fun j q e => by
      obtain ⟨b, u, e1, e2, e3⟩ := ht j q e
      have hb : b < s.heap.objs.size := e2.lt
      exact ⟨b, u, by rw [Nat.zero_add]; exact e1, Nat.ne_of_lt hb, Nat.ne_of_lt (Nat.lt_trans hb hS1), e2.keeps fun c o z => k2 _ _ (hk1 _ _ (k0 _ _ z)), e3⟩)
    ⟨_, Heap.get?_push_size _ rfl, rfl, rfl⟩ (hl1.at fun o e => k2 _ _ e) ((hnew.at fun o e => hk1 _ _ e).at fun o e => k2 _ _ e)
    (fun h' tk hd' k => ⟨rfl, h h' tk hd' fun b o e => k b o (Nat.ne_of_lt (Heap.lt_size e)) (Nat.ne_of_lt (Nat.lt_trans (Heap.lt_size e) hS1)) (k2 _ _ (hk1 _ _ (k0 _ _ e)))⟩)
  first
    | exact wpAny_pure ⟨plainId_quiet ud_plain _, key⟩
    | exact wpAny_bind (wpAny_pure (wpAny_pure ⟨plainId_quiet ud_plain _, key⟩))
end
section
variable {X : Cx}
theorem pairs_of {pins : List (Addr × Obj)} {σ : St} {H : Hp} {s : Shared} (I : Inv X pins σ H s) : ∀ {ps : List Addr} {kvs : List (Key × V)}, Paired (fun p kv => SqT X.K H p [kV kv.1, kv.2]) ps kvs →
    ∃ prs : List (Key × Value), KV kvs prs ∧ prs.length = ps.length ∧ ∀ (j : Nat) (q : Key × Value), prs[j]? = some q → ∃ (b : Addr) (u : Value), ps[j]? = some b ∧ IsTup s.heap b #[u, q.2] ∧ keyIs q.1 u = true
  | _, _, .nil => ⟨[], .nil, rfl, fun j q e => by simp at e⟩
  | _, _, .cons (a := p) (b := kv) h t => by
    obtain ⟨prs, r, hl, hp⟩ := pairs_of I t
    obtain ⟨its, rv, ht, _⟩ := I.tuple h
    obtain ⟨u, y, ei, ru, ry⟩ := vals2 rv
    subst ei
    refine ⟨(kv.1, y) :: prs, .cons ⟨rfl, ry⟩ r, by rw [List.length_cons, List.length_cons, hl], fun j q e => ?_⟩
    cases j with
    | zero =>
      have e' : (kv.1, y) = q := Option.some.inj e
      subst e'
      exact ⟨p, u, rfl, ht, kV_is (P := X.prog) (w := X.w) ru⟩
    | succ j =>
      obtain ⟨b, u', e1, e2, e3⟩ := hp j q (by simpa using e)
      exact ⟨b, u', by simpa using e1, e2, e3⟩
theorem refs_at : ∀ {ps : List Addr} {us : List Value}, Vals (ps.map V.ref) us → us = ps.map Value.ref
  | [], us, r => by
    rw [List.map_nil] at r
    cases r
    rfl
  | p :: ps, us, r => by
    rw [List.map_cons] at r
    cases r with
    | cons h t =>
      cases h
      rw [List.map_cons, ← refs_at t]
theorem call_dictP (hcalm : X.calm = true) : CallR X (.type "dict") (fun xs H Q => ∃ (a : Addr) (ps : List Addr) (kvs : List (Key × V)), xs = [.ref a] ∧ SqL X.K H a (ps.map V.ref) ∧ Paired (fun p kv => SqT X.K H p [kV kv.1, kv.2]) ps kvs ∧
    ∀ p, H p = none → Q (.ref p) (upd H p (.dK (mergeK [] kvs)))) := by
  intro pins s σ H xs us Q I r q
  obtain ⟨a, ps, kvs, ex, hq, hp, q⟩ := q
  subst ex
  obtain ⟨u, eu, rx⟩ := vals1 r
  subst eu
  cases rx
  obtain ⟨its, rv, pl, hz⟩ := I.list hq
  have ei := refs_at rv
  subst ei
  rw [List.length_map] at hz
  obtain ⟨prs, rel, hl, hpr⟩ := pairs_of I hp
  obtain ⟨o, n, ho, hc, hd, hdat⟩ := pl
  refine call_dict_pairs (prs := prs) (I.ok.hd hcalm) ho hc hd hdat (by simp [hl]) (by rw [hl]; exact hz) (fun j q' e => ?_) fun h' tk hd' k => ?_
  · obtain ⟨b, u, e1, e2, e3⟩ := hpr j q' e
    exact ⟨b, u, by simp [e1], e2, e3⟩
  · have hm : (s.heap.objs.size == sysModules) = false := beq_eq_false_iff_ne.mpr (Nat.ne_of_gt I.big)
    have hlen : (mergeK [] kvs).length ≤ sizeLine := by
      refine Nat.le_trans (length_mergeK kvs []) ?_
      rw [List.length_nil, Nat.zero_add, rel.length, hl]
      exact hz
    exact ⟨.ref s.heap.objs.size, upd H s.heap.objs.size (.dK (mergeK [] kvs)), I.laid (t' := tk) k (Nat.le_refl _) (show ObjOk X.prog X.w _ _ _ (.dK (mergeK [] kvs)) from ⟨hlen, hm, merged [] prs, KV.merge rel .nil, hd'⟩), rfl, q _ (I.hok.fresh (Nat.le_refl _))⟩
end
end L2
namespace L2
open PySem PySem.Spec PyProof.Rows
section
variable {X : Cx} {pins : List (Addr × Obj)} {σ : St} {H : Hp} {s : Shared} {h' : Heap}
theorem Inv.turnedL {t' : Nat} {ch : List Addr} (I : Inv X pins σ H s) (k : ∀ b o, b ∉ ch → s.heap.get? b = some o → h'.get? b = some o) (hf : ∀ b ∈ ch, FpOk X pins H b) : Inv X pins σ H { s with heap := h', toks := t' } := by
  have nit : ∀ b u, H b = some u → b ∉ ch := fun b u e z => by
    have q := (hf b z).1
    rw [q] at e; cases e
  refine I.step (g' := s.gens) (d' := s.drawn) (ch := ch) (fun b hb => ⟨(hf b hb).2.2.2.1, (hf b hb).2.1, (hf b hb).2.2.2.2.1, (hf b hb).2.2.2.2.2⟩) (fun b o _ _ hc e _ => k b o hc e) (fun b o _ _ hc e _ => ⟨o.slots, k b o hc e⟩)
    (fun _ _ _ _ n => n) (fun b o hc e => ⟨o, k b o hc e⟩) (fun _ _ e => e) (fun _ _ _ e => e) (fun b ps e => ⟨#[], by rw [e]; simp⟩) (fun m hm => ?_) (fun b u e => ?_) I.bare
  · obtain ⟨o, es, ep, ho, r⟩ := hm
    exact ⟨o, es, ep, k _ o (fun z => (hf _ z).2.1 rfl) ho, r⟩
  · refine (I.hok b u e).stay (fun c v hc q => k c v ?_ q) (fun _ q => q) fun _ _ q => q
    rcases hc with z | z
    · rw [z]; exact nit b u e
    · exact nit c _ z
theorem Inv.turnedNew {t' : Nat} {ch : List Addr} {T : Addr} {ob : HO} (I : Inv X pins σ H s) (k : ∀ b o, b ∉ ch → s.heap.get? b = some o → h'.get? b = some o) (hf : ∀ b ∈ ch, FpOk X pins H b) (hT : s.heap.objs.size ≤ T)
    (new : ObjOk X.prog X.w (upd H T ob) h' T ob) : Inv X pins σ (upd H T ob) { s with heap := h', toks := t' } := by
  have hn : H T = none := I.hok.fresh hT
  have nit : ∀ b u, H b = some u → b ∉ ch := fun b u e z => by
    have q := (hf b z).1
    rw [q] at e; cases e
  refine I.step (g' := s.gens) (d' := s.drawn) (ch := ch) (fun b hb => ⟨(hf b hb).2.2.2.1, (hf b hb).2.1, (hf b hb).2.2.2.2.1, (hf b hb).2.2.2.2.2⟩) (fun b o _ _ hc e _ => k b o hc e) (fun b o _ _ hc e _ => ⟨o.slots, k b o hc e⟩)
    (fun b o _ e n => ?_) (fun b o hc e => ⟨o, k b o hc e⟩) (fun b xs e => ?_) (fun b o u e => ?_) (fun b ps e => ⟨#[], ?_⟩) (fun m hm => ?_) (fun b u e => ?_) I.bare
  · rw [upd_ne (Nat.ne_of_lt (Nat.lt_of_lt_of_le (Heap.lt_size e) hT))]; exact n
  · rw [upd_ne (ne_of_none e hn)]; exact e
  · rw [upd_ne (ne_of_none e hn)]; exact e
  · rw [upd_ne (ne_of_none e hn), e]; simp
  · obtain ⟨o, es, ep, ho, r⟩ := hm
    exact ⟨o, es, ep, k _ o (fun z => (hf _ z).2.1 rfl) ho, r⟩
  · by_cases hb : b = T
    · subst hb
      rw [upd_same] at e
      cases e
      exact new
    · rw [upd_ne hb] at e
      refine (I.hok b u e).stay (fun c v hc q => k c v ?_ q) (fun c q => by rw [upd_ne (ne_of_none q hn)]; exact q) fun c xs q => by rw [upd_ne (ne_of_none q hn)]; exact q
      rcases hc with z | z
      · rw [z]; exact nit b u e
      · exact nit c _ z
end
section
variable {X : Cx}
theorem pi_one {tg : Expr} {pins : List (Addr × Obj)} {σ : St} {H : Hp} {s : Shared} {R : It → Hp → Prop} {J : It} {tn : Nat → Heap → Prop} {tk : Nat} (I : Inv X pins σ H s) (o : Obj)
    (T : Turn X.prog X.w X.K tg J [s.heap.objs.size] s.heap.objs.size tn) (st : tn 0 (s.heap.push o)) (q : R J H) : PIE X pins σ tg R (.ref s.heap.objs.size) { s with heap := s.heap.push o, toks := tk } := by
  refine ⟨s.heap.objs.size, [s.heap.objs.size], tn, J, H, rfl, I.kept fun b ob e => Heap.get?_push_of_some _ e, T, st, fun b hb => ?_, q⟩
  have e : b = s.heap.objs.size := by simpa using hb
  subst e
  exact I.fpOk (Nat.le_refl _) (I.hok.fresh (Nat.le_refl _))
end
def RgC (i j c : Int) (n : Nat) : Prop := c ≠ 0 ∧ c.natAbs < 1073741824 ∧ Builtin.Range.small i j c = true ∧ Builtin.Range.rangeSize i j c = n
theorem RgC.neg {i j : Int} (ha : -(2 ^ 62) ≤ i) (ha' : i < 2 ^ 62) (hb : -(2 ^ 62) ≤ j) (hb' : j < 2 ^ 62) : RgC i j (-1) (i - j).toNat :=
  ⟨by decide, by decide, PySem.W.small_down ha ha' hb hb', PySem.W.rangeSize_downNat i j⟩
section
variable {X : Cx} {tg : Expr}
end
section
variable {X : Cx} {tg : Expr}
end
def Its (x : Str) : It := ⟨fun i _ => i < x.cps.size, fun i H v H' => H' = H ∧ ∃ c, x.cps[i]? = some c ∧ v = .str ⟨#[c]⟩, fun i _ => x.cps.size ≤ i⟩
theorem turn_str {P : Program} {w : World} {K : PySem.W.Frag} {tg : Expr} (it : Addr) (x : Str) (t : Tok) (ty : String) (hty : ty = "str_ascii_iterator" ∨ ty = "str_iterator") :
    Turn P w K tg (Its x) [it] it (fun i h => h.IsStrIter it ty x t i) where
  mem := by simp
  obj := fun i h st b hb => by
    have e : b = it := by simpa using hb
    subst e
    obtain ⟨o, e, c, d⟩ := st
    exact ⟨o, e, fun v z => by rw [d] at z; cases z⟩
  keep := fun i h h' st k => let ⟨o, ho, r⟩ := st; ⟨o, k it (by simp) o ho, r⟩
  item := by
    intro X hP hw hK hc i pins s σ H E I hf st hg
    subst hP hw hK
    obtain ⟨f0, f1, f2, f3, f4, f5⟩ := hf it (by simp)
    have W : Walks X.prog X.w X.A it [it] [it] x.cps.size (SignAt x) (fun i h => h.IsStrIter it ty x t i) := by
      rcases hty with e | e
      · rw [e]; exact Walks.strAscii (I.ok.hd hc) it x t
      · rw [e]; exact Walks.strWide (I.ok.hd hc) it x t
    have hno : ["enumerate", "zip", "dict_itemiterator", "dict_reverseitemiterator", "odict_iterator", "itertools.zip_longest", "itertools.pairwise"].contains ty = false := by
      rcases hty with e | e
      · rw [e]; decide
      · rw [e]; decide
    refine W.item i s _ _ hg st fun v h' tk hv st' kk => ?_
    obtain ⟨c, u, hcx, rfl⟩ := hv
    have I1 : Inv X pins σ H { s with heap := h', toks := tk } := I.turned (fun b o hb e => kk b o (by simpa using hb) e) f0 f1 f3 f4 f5
    obtain ⟨oi, e, cc, dd⟩ := id st'
    exact ⟨_, rfl, go_of (s := { s with heap := h', toks := tk }) e cc dd hno ⟨.str ⟨#[c]⟩, H, I1, ⟨u, rfl⟩, ⟨rfl, c, hcx, rfl⟩, st', fun b hb => (hf b hb).1⟩⟩
  done := by
    intro X hP hw hK hc i pins s σ H E I hf st hg
    subst hP hw hK
    obtain ⟨f0, f1, f2, f3, f4, f5⟩ := hf it (by simp)
    have hx : x.cps[i]? = none := Array.getElem?_eq_none hg
    rcases hty with e | e
    · rw [e] at st
      exact wpAny_pyNext_ascii_end (I.ok.hd hc) st hx fun h' eb => ⟨rfl, I.turned (t' := s.toks) (fun b o hb e => eb b o hb e) f0 f1 f3 f4 f5⟩
    · rw [e] at st
      exact wpAny_pyNext_wide_end (I.ok.hd hc) st hx fun h' eb => ⟨rfl, I.turned (t' := s.toks) (fun b o hb e => eb b o hb e) f0 f1 f3 f4 f5⟩
  self := fun A i s Q E st h => by
    rcases hty with e | e
    · rw [e] at st; exact wpAny_pyIter_striter_ascii st h
    · rw [e] at st; exact wpAny_pyIter_striter_wide st h
def iStr (te : TE) : TI := fun σ H R => te σ H fun v H1 => ∃ x, v = .str x ∧ R (Its x) H1
theorem pi_str {X : Cx} {tg e : Expr} {te : TE} (he : PE X e te) : PI X tg e (iStr te) := by
  intro pins s σ H R I h
  refine thn (he pins s σ H _ I h) fun v s1 ⟨y, H1, I1, r1, x, ex, q⟩ => ?_
  subst ex
  obtain ⟨t, rfl⟩ := r1
  cases ha : x.cps.all (· < 128)
  · exact wpAny_pyIter_wide ha (pi_one (tk := s1.toks) I1 _ (turn_str _ x t "str_iterator" (.inr rfl)) ⟨_, Heap.get?_push_size _ rfl, rfl, rfl⟩ q)
  · exact wpAny_pyIter_ascii ha (pi_one (tk := s1.toks) I1 _ (turn_str _ x t "str_ascii_iterator" (.inl rfl)) ⟨_, Heap.get?_push_size _ rfl, rfl, rfl⟩ q)
section
variable {prog : Program} {w : World} {A : Around} {E : Value → Shared → Prop} {s : Shared}
end
section
variable {X : Cx} {pins : List (Addr × Obj)} {σ : St} {H : Hp} {s : Shared} {d : Addr} {o : Obj}
end
section
variable {P : Program} {w : World} {K : PySem.W.Frag} {tg : Expr} {d : Addr} {o : Obj} {es : Array DictEntry} {ep : Nat}
end
section
variable {X : Cx} {tg e : Expr} {td : TE} {apos cpos : Pos}
end
theorem boot_zip5 : bootBuiltins "zip" = some (.type "zip") := by decide +kernel
end L2
section 
namespace Bits
open PySem PyProof.Rows
end Bits
end 
section 
namespace TL
open PySem PySem.Builtin PySem.Builtin.Str PySem.StrLaws
abbrev tl (x : Str) : List Nat := x.cps.toList
theorem len_tl (x : Str) : x.length = (tl x).length := by simp [tl, Str.length]
theorem ext_tl {x y : Str} (h : tl x = tl y) : x = y := Str.ext' (Array.toList_inj.mp h)
theorem tl_append (x y : Str) : tl (x ++ y) = tl x ++ tl y := by
  show (x ++ y).cps.toList = _
  rw [Str.cps_append, Array.toList_append]
theorem tl_ofString (s : String) : tl (Str.ofString s) = s.toList.map Char.toNat := PyProof.Rows.signs_ofString s
def pre (S l : List Nat) : Bool := l.take S.length == S
def spl (S : List Nat) : Nat → List Nat → List Nat → List (List Nat)
  | _, acc, [] => [acc]
  | 0, acc, c :: r => if pre S (c :: r) = true then acc :: spl S (S.length - 1) [] r else spl S 0 (acc ++ [c]) r
  | k + 1, acc, _ :: r => spl S k acc r
def par (S : List Nat) : List Nat → List Nat → Option (List Nat × List Nat)
  | _, [] => none
  | acc, c :: r => if pre S (c :: r) = true then some (acc, (c :: r).drop S.length) else par S (acc ++ [c]) r
theorem spl_nil (S : List Nat) (k : Nat) (acc : List Nat) : spl S k acc [] = [acc] := by cases k <;> rfl
theorem spl_hit {S acc r : List Nat} {c : Nat} (h : pre S (c :: r) = true) : spl S 0 acc (c :: r) = acc :: spl S (S.length - 1) [] r := by
  show (if pre S (c :: r) = true then acc :: spl S (S.length - 1) [] r else spl S 0 (acc ++ [c]) r) = _
  rw [if_pos h]
theorem spl_miss {S acc r : List Nat} {c : Nat} (h : pre S (c :: r) = false) : spl S 0 acc (c :: r) = spl S 0 (acc ++ [c]) r := by
  show (if pre S (c :: r) = true then acc :: spl S (S.length - 1) [] r else spl S 0 (acc ++ [c]) r) = _
  rw [if_neg (by rw [h]; exact Bool.false_ne_true)]
theorem spl_pass (S : List Nat) : ∀ (k : Nat) (acc l : List Nat), spl S k acc l = spl S 0 acc (l.drop k)
  | 0, _, _ => by rw [List.drop_zero]
  | k + 1, acc, [] => by rw [List.drop_nil, spl_nil, spl_nil]
  | k + 1, acc, c :: r => by
    show spl S k acc r = spl S 0 acc (r.drop k)
    exact spl_pass S k acc r
theorem pre_nil {S : List Nat} (hS : S ≠ []) : pre S [] = false := by
  cases S with
  | nil => exact absurd rfl hS
  | cons s S => rfl
theorem getElem_drop_cons {L : List Nat} {a : Nat} (h : a < L.length) : ∃ c, L.drop a = c :: L.drop (a + 1) := ⟨L[a], List.drop_eq_getElem_cons h⟩
theorem spl_run (S L : List Nat) : ∀ (m a : Nat) (acc : List Nat), a + m ≤ L.length → (∀ k, a ≤ k → k < a + m → pre S (L.drop k) = false) →
    spl S 0 acc (L.drop a) = spl S 0 (acc ++ (L.drop a).take m) (L.drop (a + m))
  | 0, a, acc, _, _ => by rw [List.take_zero, List.append_nil, Nat.add_zero]
  | m + 1, a, acc, h, hn => by
    have hlt : a < L.length := by omega
    obtain ⟨c, e⟩ := getElem_drop_cons hlt
    have h0 := hn a (Nat.le_refl _) (by omega)
    have ih := spl_run S L m (a + 1) (acc ++ [c]) (by omega) (fun k h1 h2 => hn k (by omega) (by omega))
    have e2 : a + 1 + m = a + (m + 1) := by omega
    rw [e2] at ih
    rw [e] at h0
    rw [e, spl_miss h0, ih, List.take_succ_cons, List.append_assoc] <;> rfl
theorem drop_two (L : List Nat) (a b : Nat) : (L.drop a).drop b = L.drop (a + b) := by
  first
    | rw [List.drop_drop]
    | rw [List.drop_drop, Nat.add_comm]
theorem spl_at {S L : List Nat} (hS : S ≠ []) {c : Nat} {acc : List Nat} (h : pre S (L.drop c) = true) : spl S 0 acc (L.drop c) = acc :: spl S 0 [] (L.drop (c + S.length)) := by
  rw [← drop_two]
  cases e : L.drop c with
  | nil => rw [e, pre_nil hS] at h; cases h
  | cons d r =>
    rw [e] at h
    rw [spl_hit h, spl_pass]
    cases S with
    | nil => exact absurd rfl hS
    | cons s S => rfl
theorem at_iff {x y : Str} (hy : tl y ≠ []) (i : Nat) : At x y x.length i ↔ pre (tl y) ((tl x).drop i) = true := by
  have hx := len_tl x
  have hl := len_tl y
  constructor
  · intro h
    have h2 := h.2
    rw [subAt_eq, hl] at h2
    exact h2
  · intro h
    have e : ((tl x).drop i).take (tl y).length = tl y := eq_of_beq h
    have e1 := congrArg List.length e
    rw [List.length_take, List.length_drop] at e1
    have e2 : 0 < (tl y).length := List.length_pos_iff.mpr hy
    refine ⟨by omega, ?_⟩
    rw [subAt_eq, hl]
    exact h
theorem no_at {x y : Str} (hy : tl y ≠ []) {i : Nat} (h : ¬ At x y x.length i) : pre (tl y) ((tl x).drop i) = false := by
  cases hp : pre (tl y) ((tl x).drop i) with
  | false => rfl
  | true => exact absurd ((at_iff hy i).mpr hp) h
theorem len1 {y : Str} (hy : tl y ≠ []) : 1 ≤ y.length := by
  have e2 : 0 < (tl y).length := List.length_pos_iff.mpr hy
  rw [len_tl y]
  exact e2
theorem tl_strSub (x : Str) (i j : Nat) : tl (strSub x i j) = ((tl x).drop i).take (j - i) := strSub_toList x i j
theorem tl_strSub_end (x : Str) (i : Nat) : tl (strSub x i x.length) = (tl x).drop i := by
  rw [tl_strSub, len_tl x]
  exact List.take_of_length_le (by rw [List.length_drop] <;> omega)
theorem parts_spl {x y : Str} (hy : tl y ≠ []) : ∀ (cuts : List Nat) (a f : Nat), a ≤ (tl x).length → ChainG x y x.length a cuts f → (∀ k, f ≤ k → ¬ At x y x.length k) →
    (partsFrom x y.length a cuts).map tl = spl (tl y) 0 [] ((tl x).drop a)
  | [], a, f, ha, h, hn => by
    have e : f = a := h
    subst e
    show [tl (strSub x f x.length)] = _
    have run := spl_run (tl y) (tl x) ((tl x).length - f) f [] (by omega) (fun k h1 _ => no_at hy (hn k h1))
    have e2 : f + ((tl x).length - f) = (tl x).length := by omega
    rw [e2, List.drop_length, spl_nil, List.nil_append, List.take_of_length_le (by rw [List.length_drop] <;> omega)] at run
    rw [run, tl_strSub_end]
  | c :: r, a, f, ha, h, hn => by
    obtain ⟨h1, h2, h3, h4⟩ := h
    have hc : c + y.length ≤ x.length := h2.1
    have hx := len_tl x
    have hl := len_tl y
    have ih := parts_spl hy r (c + y.length) f (by omega) h4 hn
    show tl (strSub x a c) :: (partsFrom x y.length (c + y.length) r).map tl = _
    have run := spl_run (tl y) (tl x) (c - a) a [] (by omega) (fun k k1 k2 => no_at hy (h3 k k1 (by omega)))
    have e2 : a + (c - a) = c := by omega
    rw [e2, List.nil_append, spl_at hy ((at_iff hy c).mp h2)] at run
    rw [run, ih, tl_strSub, hl]
theorem split_spl (x y : Str) (hy : tl y ≠ []) (hk : ¬ Builtin.Str.strKind x < Builtin.Str.strKind y) : (Txt.split x y).map tl = spl (tl y) 0 [] (tl x) := by
  obtain ⟨f, g, hn⟩ := occ_tight x y (len1 hy)
  have key := parts_spl hy _ 0 f (Nat.zero_le _) g hn
  rw [List.drop_zero] at key
  have none_case : occurrences x y 0 x.length (x.length + 1) = [] → [x].map tl = spl (tl y) 0 [] (tl x) := fun ho => by
    rw [ho] at key
    rw [← key]
    show [tl x] = [tl (strSub x 0 x.length)]
    rw [sub_whole]
  unfold Txt.split
  by_cases h1 : (decide (x.length < y.length) || decide (Builtin.Str.strKind x < Builtin.Str.strKind y)) = true
  · rw [if_pos h1]
    have hlt : x.length < y.length := by
      simp only [Bool.or_eq_true, decide_eq_true_eq] at h1
      rcases h1 with h | h
      · exact h
      · exact absurd h hk
    refine none_case ?_
    cases ho : occurrences x y 0 x.length (x.length + 1) with
    | nil => rfl
    | cons c r =>
      rw [ho] at g
      have hc : c + y.length ≤ x.length := g.2.1.1
      omega
  · rw [if_neg h1]
    by_cases h2 : (occurrences x y 0 x.length (x.length + 1)).isEmpty = true
    · rw [if_pos h2]
      exact none_case (List.isEmpty_iff.mp h2)
    · rw [if_neg h2, partsBetween_eq]
      exact key
theorem kind_ok {x y : Str} (h : y.cps.all (· < 256) = true) : ¬ Builtin.Str.strKind x < Builtin.Str.strKind y := by
  have e : Builtin.Str.strKind y = 1 := by unfold PySem.Builtin.Str.strKind; rw [if_pos h]
  rw [e]
  unfold PySem.Builtin.Str.strKind
  split
  · omega
  · split <;> omega
def joinL (S : List Nat) : List (List Nat) → List Nat
  | [] => []
  | [p] => p
  | p :: q :: r => p ++ (S ++ joinL S (q :: r))
theorem tl_join (y : Str) : ∀ parts : List Str, tl (Str.join y parts) = joinL (tl y) (parts.map tl)
  | [] => rfl
  | [_] => rfl
  | x :: z :: r => by
    show tl (x ++ y ++ Str.join y (z :: r)) = tl x ++ (tl y ++ joinL (tl y) ((z :: r).map tl))
    rw [tl_append, tl_append, tl_join y (z :: r), List.append_assoc]
theorem join_eq (y : Str) (parts : List Str) : Txt.join y parts = Str.join y parts := glued_eq_join y parts
def numL (n : Nat) : List Nat := (Nat.toDigits 10 n).map Char.toNat
theorem tl_num (n : Nat) : tl (Str.ofString (toString ((n : Nat) : Int))) = numL n := PySem.W.KIN.signs_num n
theorem digitChar_nat : ∀ d : Nat, d < 10 → (Nat.digitChar d).toNat = 48 + d := by decide
theorem numL_lt {n : Nat} (h : n < 10) : numL n = [48 + n] := by
  unfold numL
  rw [Nat.toDigits_of_lt_base h]
  show [(Nat.digitChar n).toNat] = _
  rw [digitChar_nat n h]
theorem numL_step {n : Nat} (h : 10 ≤ n) : numL n = numL (n / 10) ++ [48 + n % 10] := by
  have hm : n % 10 < 10 := Nat.mod_lt n (by decide)
  have t : Nat.toDigits 10 (n / 10) ++ Nat.toDigits 10 (n % 10) = Nat.toDigits 10 (10 * (n / 10) + n % 10) := Nat.toDigits_append_toDigits (by decide) (by omega) hm
  rw [Nat.div_add_mod] at t
  show (Nat.toDigits 10 n).map Char.toNat = _
  rw [← t, List.map_append, Nat.toDigits_of_lt_base hm]
  show (Nat.toDigits 10 (n / 10)).map Char.toNat ++ [(Nat.digitChar (n % 10)).toNat] = _
  rw [digitChar_nat _ hm] <;> rfl
theorem numL_digits (n : Nat) : NumText.AllDigits (numL n) := by
  induction n using Nat.strongRecOn with
  | _ n ih =>
    by_cases h : n < 10
    · rw [numL_lt h]
      intro c hc
      rw [List.mem_singleton.mp hc]
      omega
    · rw [numL_step (by omega)]
      intro c hc
      rcases List.mem_append.mp hc with hc | hc
      · exact ih (n / 10) (by omega) c hc
      · have hm : n % 10 < 10 := Nat.mod_lt n (by decide)
        rw [List.mem_singleton.mp hc]
        omega
theorem numL_ne (n : Nat) : numL n ≠ [] := by
  by_cases h : n < 10
  · rw [numL_lt h]
    simp
  · rw [numL_step (by omega)]
    simp
theorem numL_free {n s : Nat} (h : s < 48 ∨ 57 < s) : s ∉ numL n := fun hm => by
  have r := numL_digits n s hm
  omega
theorem numL_len {n k : Nat} (hk : 0 < k) (h : n < 10 ^ k) : (numL n).length ≤ k := by
  have z := PyProof.Rows.toString_length_le (v := (n : Int)) (by omega) hk (by
    have e : ((10 : Int) ^ k) = ((10 ^ k : Nat) : Int) := by
      first
        | exact (Int.natCast_pow 10 k).symm
        | simp
    rw [e]
    first | exact Int.ofNat_lt.mpr h | omega)
  rw [len_tl, tl_num] at z
  exact z
end TL
end 
namespace L2
open PySem PySem.Spec PyProof.Rows
theorem vals_strs : ∀ l : List (Str × Tok), Vals ((l.map (·.1)).map V.str) (strValues l)
  | [] => .nil
  | p :: r => .cons ⟨p.2, rfl⟩ (vals_strs r)
theorem strs_of_vals : ∀ {ys : List Str} {us : List Value}, Vals (ys.map V.str) us → StrsAre us ys
  | [], _, .nil => .nil
  | y :: ys, _, .cons r t => by
    obtain ⟨k, rfl⟩ := r
    exact .cons y k (strs_of_vals t)
def rNewStrs (ys : List Str) : Hp → VK → Prop := fun H Q => ∀ p, H p = none → Q (.ref p) (upd H p (.lst (ys.map V.str)))
section
variable {X : Cx} {pins : List (Addr × Obj)} {σ : St} {H : Hp} {s : Shared} {Q : VK}
theorem laid_strs {l : List (Str × Tok)} {ys : List Str} {k : Nat} (I : Inv X pins σ H s) (e : l.map (·.1) = ys) (hz : ys.length ≤ sizeLine) (h : rNewStrs ys H Q) :
    EP X pins σ Q (.ref s.heap.objs.size) { s with toks := k, heap := s.heap.push { cls := .type "list", data := .seq (strValues l).toArray } } := by
  have hp := I.hok.fresh (Nat.le_refl _)
  refine ⟨.ref s.heap.objs.size, upd H s.heap.objs.size (.lst (ys.map V.str)), I.laid (fun b u q => Heap.get?_push_of_some _ q) (Nat.le_refl _) ⟨by rw [List.length_map]; exact hz, strValues l, _, ?_, Heap.get?_push_size _ rfl⟩, rfl, h _ hp⟩
  rw [← e]
  exact vals_strs l
end
section
variable {X : Cx}
theorem mt_split : MtR X "str.split" (fun x xs H Q => ∃ a b, x = .str a ∧ xs = [.str b] ∧ (b.length == 0) = false ∧ a.length + 2 ≤ sizeLine ∧ rNewStrs (Txt.split a b) H Q) := by
  intro pins s σ H x xs v us Q I rx rs h
  obtain ⟨a, b, rfl, rfl, hb, hz, h⟩ := h
  obtain ⟨t, rfl⟩ := rx
  cases rs with
  | cons r1 rs =>
    cases rs
    obtain ⟨u, rfl⟩ := r1
    have hl : (Txt.split a b).length ≤ sizeLine := Nat.le_trans (PyProof.Rows.split_le a b) hz
    have hn : (Builtin.Str.partsBetween a (Builtin.Str.occurrences a b 0 a.length (a.length + 1)) b.length).length ≤ sizeLine := by
      have e1 := StrLaws.occ_length_le a b 0 a.length (a.length + 1)
      rw [length_partsBetween]; omega
    cases h1 : (decide (a.length < b.length) || decide (Builtin.Str.strKind a < Builtin.Str.strKind b))
    · cases hf : (Builtin.Str.occurrences a b 0 a.length (a.length + 1)).isEmpty
      · refine call_meets F.slot_str_split (typeIs_str _ _ _) F.entry_str_split (F.args_str_split_2 _ _) (meets_str_split_sep a b t u h1 hb hf (by omega) hn) ?_
        show EP X pins σ Q (.ref s.heap.objs.size) { s with toks := _, heap := s.heap.push { cls := .type "list", data := .seq (strsFrom s.toks (Builtin.Str.partsBetween a (Builtin.Str.occurrences a b 0 a.length (a.length + 1)) b.length)).toArray } }
        rw [strsFrom_eq]
        exact laid_strs (ys := Txt.split a b) I ((numbered_texts _ _).trans ((if_neg (ne_true_of_eq_false h1)).trans (if_neg (ne_true_of_eq_false hf))).symm) hl h
      · refine call_meets F.slot_str_split (typeIs_str _ _ _) F.entry_str_split (F.args_str_split_2 _ _) (meets_str_split_not_found a b t u h1 hb hf) ?_
        exact laid_strs (l := [(a, t)]) (ys := Txt.split a b) (k := s.toks) I ((if_neg (ne_true_of_eq_false h1)).trans (if_pos hf)).symm hl h
    · refine call_meets F.slot_str_split (typeIs_str _ _ _) F.entry_str_split (F.args_str_split_2 _ _) (meets_str_split_cannot_occur a b t u h1) ?_
      exact laid_strs (l := [(a, t)]) (ys := Txt.split a b) (k := s.toks) I (if_pos h1).symm hl h
theorem mt_join : MtR X "str.join" (fun x xs H Q => ∃ a p, ∃ ys : List Str, x = .str a ∧ xs = [.ref p] ∧ (SqL X.K H p (ys.map V.str) ∨ SqT X.K H p (ys.map V.str)) ∧
    (ys.map (·.length)).sum + ys.length * a.length ≤ 16777216 ∧ Q (.str (Txt.join a ys)) H) := by
  intro pins s σ H x xs v us Q I rx rs h
  obtain ⟨a, p, ys, rfl, rfl, hp, hz, h⟩ := h
  obtain ⟨t, rfl⟩ := rx
  cases rs with
  | cons r1 rs =>
    cases rs
    cases r1
    rcases hp with hp | hp
    · obtain ⟨its, r, ⟨o, n, ho, hc, _, hd⟩, _⟩ := I.list hp
      exact PyProof.Rows.join_list (items := its.toArray) ⟨o, ho, hc, n, hd⟩ (by rw [List.toList_toArray]; exact strs_of_vals r) hz fun t' k => ⟨.str _, H, I.tok k, ⟨t', rfl⟩, h⟩
    · obtain ⟨its, r, ht, _⟩ := I.tuple hp
      exact PyProof.Rows.join_tuple (items := its.toArray) ht (by rw [List.toList_toArray]; exact strs_of_vals r) hz fun t' k => ⟨.str _, H, I.tok k, ⟨t', rfl⟩, h⟩
theorem call_int_str : CallR X (.type "int") (fun xs H Q => ∃ a n, xs = [.str a] ∧ PySem.intText? a = some n ∧ a.length ≤ 640 ∧ Q (.int n) H) := by
  intro pins s σ H xs us Q I rs h
  obtain ⟨a, n, rfl, hn, hl, h⟩ := h
  cases rs with
  | cons r1 rs =>
    cases rs
    obtain ⟨t, rfl⟩ := r1
    exact PySem.W.KIN.call_text hn hl ⟨.int n, H, I.tok _, ⟨_, rfl⟩, h⟩
end
section
variable {X : Cx} {o e : Expr} {to te : TE}
def tM1 (r : V → List V → Hp → VK → Prop) (to te : TE) : TE := fun σ H Q => to σ H fun x H1 => (∃ a, x = .str a) ∧ te σ H1 fun y H2 => r x [y] H2 Q
theorem pe_m1 {id : String} {name : Str} {apos pos : Pos} {r : V → List V → Hp → VK → Prop} (slot : Slot "str" name id) (ty : typeOf (.builtin id) = pure (.type "method_descriptor")) (rule : MtR X id r) (ho : PE X o to) (he : PE X e te)
    (hs : starEach [e] X.env = [(false, eval e X.env)] := by rfl) (hbase : attributeBase o name X.env (eval o X.env) = eval o X.env := by rfl) (hline : (apos.endLine == pos.line) = true := by rfl) :
    PE X (.Call (.Attribute o name apos) [e] [] pos) (tM1 r to te) := by
  intro pins s σ H Q I h
  refine PySem.Call_method1 hbase hs hline (thn (ho pins s σ H _ I h) fun v s1 ⟨x, H1, I1, r1, q1⟩ => ?_)
  obtain ⟨⟨a, rfl⟩, q1⟩ := q1
  obtain ⟨t, rfl⟩ := _root_.id r1
  refine ⟨"str", _, F.plainAttrs_str, slot, ty, typeIs_str _ _ _, (fun _ e => nomatch e), Calls.callWith_builtin rfl (Calls.evalArgs_plain (Calls.spliced_cons ?_))⟩
  exact thn (he pins s1 σ H1 _ I1 q1) fun u s2 ⟨y, H2, I2, r2, q2⟩ => Calls.spliced_nil (rule pins s2 σ H2 _ [y] _ [u] Q I2 r1 (.cons r2 .nil) q2)
theorem pe_split {apos pos : Pos} (ho : PE X o to) (he : PE X e te) (hs : starEach [e] X.env = [(false, eval e X.env)] := by rfl) (hbase : attributeBase o "split" X.env (eval o X.env) = eval o X.env := by rfl) (hline : (apos.endLine == pos.line) = true := by rfl) :
    PE X (.Call (.Attribute o "split" apos) [e] [] pos) (tM1 (fun x xs H Q => ∃ a b, x = .str a ∧ xs = [.str b] ∧ (b.length == 0) = false ∧ a.length + 2 ≤ sizeLine ∧ rNewStrs (Txt.split a b) H Q) to te) :=
  pe_m1 F.slot_str_split F.type_str_split mt_split ho he hs hbase hline
theorem pe_join {apos pos : Pos} (ho : PE X o to) (he : PE X e te) (hs : starEach [e] X.env = [(false, eval e X.env)] := by rfl) (hbase : attributeBase o "join" X.env (eval o X.env) = eval o X.env := by rfl) (hline : (apos.endLine == pos.line) = true := by rfl) :
    PE X (.Call (.Attribute o "join" apos) [e] [] pos) (tM1 (fun x xs H Q => ∃ a p, ∃ ys : List Str, x = .str a ∧ xs = [.ref p] ∧ (SqL X.K H p (ys.map V.str) ∨ SqT X.K H p (ys.map V.str)) ∧
      (ys.map (·.length)).sum + ys.length * a.length ≤ 16777216 ∧ Q (.str (Txt.join a ys)) H) to te) :=
  pe_m1 F.slot_str_join F.type_str_join mt_join ho he hs hbase hline
end
end L2
namespace L2
open PySem PySem.Spec PyProof.Rows
section
variable {X : Cx}
theorem op_in_sign : OpR X (compareOp .In) (fun x y H Q => ∃ (c : Nat) (z : Str), x = .str ⟨#[c]⟩ ∧ y = .str z ∧ Q (.bl (decide (c ∈ z.cps.toList))) H) := by
  intro pins s σ H x y v u Q I rx ry h
  obtain ⟨c, z, rfl, rfl, q⟩ := h
  obtain ⟨t, rfl⟩ := rx
  obtain ⟨t', rfl⟩ := ry
  exact PyProof.Rows.in_str (fin_bl I q (PySem.StrLaws.found_one z c).symm)
theorem op_notIn_sign : OpR X (compareOp .NotIn) (fun x y H Q => ∃ (c : Nat) (z : Str), x = .str ⟨#[c]⟩ ∧ y = .str z ∧ Q (.bl (!decide (c ∈ z.cps.toList))) H) := by
  intro pins s σ H x y v u Q I rx ry h
  obtain ⟨c, z, rfl, rfl, q⟩ := h
  obtain ⟨t, rfl⟩ := rx
  obtain ⟨t', rfl⟩ := ry
  exact PyProof.Rows.notIn_str (fin_bl I q (congrArg Bool.not (PySem.StrLaws.found_one z c).symm))
end
def cutS (z : Str) (lo hi : Option Int) : Str :=
  ⟨((z.cps.toList.drop (HT.sIx z.length 0 lo)).take (HT.sIx z.length z.length hi - HT.sIx z.length 0 lo)).toArray⟩
def rSlS : V → Option Int → Option Int → Hp → VK → Prop := fun x lo hi H Q => ∃ z, x = .str z ∧ z.length ≤ sizeLine ∧ Q (.str (cutS z lo hi)) H
end L2
namespace Att
open PySem PySem.W PySem.Calls PyProof.Rows
theorem ints_of_wellAll {P : Params} {h : Heap} : ∀ (ns : List Int) (vs : List Value), WellAll P h vs (ns.map WData.int) → IntsAre vs ns := by
  intro ns
  induction ns with
  | nil =>
    intro vs w
    rw [List.map_nil] at w
    cases w
    exact .nil
  | cons n ns ih =>
    intro vs w
    rw [List.map_cons] at w
    cases w with
    | cons a b =>
      cases a
      exact .cons _ _ (ih _ b)
theorem script_of {l : OpenLaw} {n : Nat} (hn : l.most = some n) {P : Params} {h : Heap} {args : List WData} {vals : List Value}
    (hpre : l.row.toRowW.claim.pre args = true) (hwl : WellAll P h vals args) :
    ∃ a vs ns, vals = [Value.ref a] ∧ args = [WData.list (ns.map WData.int)] ∧ h.get? a = some { cls := .type "list", data := .seq vs.toArray } ∧ IntsAre vs ns ∧ ns.length ≤ n := by
  have hsh : WShape.hasAll [] args [.list .int] = true := (pre_splitW hpre).1
  have hc : l.pre.holds [] { args := args } = true := (pre_splitW hpre).2
  obtain ⟨d, r, rfl, h1, h2⟩ := hasAllW_cons hsh
  obtain rfl := hasAllW_nil h2
  obtain ⟨xs, rfl, h3⟩ := hasW_list h1
  obtain ⟨ns, rfl⟩ := items_int h3
  have hlen : ns.length ≤ n := by
    unfold OpenLaw.pre at hc
    have h4 : (WTm.not (.lt (.lit (.int (n : Int))) (.len (.arg 0)))).holds [] { args := [.list (ns.map .int)] } = true := by
      have h4 := (holds_andW hc).1
      rw [hn] at h4
      exact h4
    have h5 := condW_of h4 (w_not (w_lt w_lit (w_len_list (w_arg rfl))))
    rw [List.length_map] at h5
    refine Nat.le_of_not_lt fun q => ?_
    have q' : (n : Int) < ((ns.length : Nat) : Int) := by omega
    first
      | (rw [decide_eq_true q'] at h5; exact absurd h5 (by decide))
      | (simp at h5; omega)
  cases hwl with
  | cons w1 w2 =>
    cases w2
    cases w1 with
    | list ho hall => exact ⟨_, _, ns, rfl, rfl, ho, ints_of_wellAll ns _ hall, hlen⟩
theorem post_true (l : OpenLaw) (args : List WData) : l.row.toRowW.claim.post args (.bool true) args = true :=
  postW_of (r := l.row.toRowW) (X := (true == true))
    (show WShape.has [] (.bool true) .bool = true by first | rfl | decide | simp [WShape.has, WShape.arms, WShape.armsAll])
    (show (WTm.eq .res (.lit (.bool true))).value [] { args := args, res := some (.bool true), after := args } = some (.bool (true == true)) from w_eq_bool (w_res rfl) w_lit) rfl
theorem attach_call {l : OpenLaw} {n : Nat} {q : Program} {loose : List Str} {XP : (Str → Option Value) → Heap → Prop} {YP : World → Heap → Prop} {d : DefRec}
    (hn : l.most = some n) (hdf : d.params.defaults = [])
    (call : ∀ (w : World) (s₀ s₁ : Shared) (mg mb : Str → Option Value) (fa : Addr) (o : Obj) (pm cd doc : Value) (a : Addr) (vs : List Value) (ns : List Int),
      Ground q loose [] XP w s₀ mg mb s₁.heap → YP w s₁.heap →
      s₁.heap.get? fa = some o → o.data = .func (docDef d.name d.params d.body d.scope pm cd doc) → s₁.heap.CodeRec cd d.name → mg d.name = some (.ref fa) →
      s₁.heap.get? a = some { cls := .type "list", data := .seq vs.toArray } → IntsAre vs ns → ns.length ≤ n → s₁.gens = #[] →
      codeAny (model l.prog w) callerA (.call (.ref fa) ⟨[.ref a], []⟩) (fun r s' => r = .ok (.ret (.bool true)) ∧ OldK s₁.heap s'.heap ∧ s'.os = s₁.os ∧ AllBare s'.gens) s₁) :
    WalkO q loose XP YP l.row.toRowW d [] (fun f vs => PySem.call f vs) := by
  intro w s₀ s₁ mg mb G Y fa o pm cd doc dV kV ho hd hcd hD hmg hg args vals as hpre hlay hrd hwl hlo
  obtain rfl : dV = .none := Dflts.none hD hdf
  obtain rfl : kV = .none := Dflts.noKw hD
  obtain ⟨a, vs, ns, rfl, rfl, hobj, hints, hlen⟩ := script_of hn hpre hwl
  refine enter_call (codeAny_mono (call w s₀ s₁ mg mb fa o pm cd doc a vs ns G Y ho (fd_plain hd) hcd hmg hobj hints hlen hg) fun r s' hq => ?_)
  obtain ⟨rfl, h2, h3, h4⟩ := hq
  exact ⟨.inl ⟨.bool true, .bool true, [], rfl, fun _ => rfl, .bool true, post_true l _, fun _ => ⟨List.Pairwise.nil, fun _ hm => (nomatch hm)⟩⟩, h2, h3, h4⟩
section
variable {prog : Program} {w : World} {A : Around} {E : Value → Shared → Prop} {s : Shared} {K : Frag}
end
end Att
namespace L2
open PySem PySem.Spec PyProof.Rows
theorem vals_ints : ∀ {vs : List Value} {ns : List Int}, IntsAre vs ns → Vals (ns.map V.int) vs
  | _, _, .nil => .nil
  | _, _, .cons n t h => .cons ⟨t, rfl⟩ (vals_ints h)
end L2
namespace L2
open PySem PySem.Spec PyProof.Rows
abbrev KOf {K : PySem.W.Frag} {h : Heap} (_ : K.In h) : PySem.W.Frag := K
end L2
namespace L2
open PySem PySem.Spec PyProof.Rows
def inClass (s : Stmt) (j : Nat) : Stmt := match s with
  | .ClassDef _ _ _ body _ _ _ _ _ _ _ => body.getD j (.Pass ⟨0, 0, 0, 0⟩)
  | _ => .Pass ⟨0, 0, 0, 0⟩
def defArgs (s : Stmt) : Arguments := match s with
  | .FunctionDef _ a _ _ _ _ _ _ _ _ => a
  | _ => { posonlyargs := [], args := [], vararg := none, kwonlyargs := [], kw_defaults := [], kwarg := none, defaults := [] }
def defBody (s : Stmt) : List Stmt := match s with
  | .FunctionDef _ _ b _ _ _ _ _ _ _ => b
  | _ => []
def defScope (s : Stmt) : Scope := match s with
  | .FunctionDef _ _ _ _ _ _ sc _ _ _ => sc
  | _ => { kind := .function, names := [], isGenerator := false, isCoroutine := false }
abbrev CX0 : CXT := fun _ _ _ _ _ _ => False
abbrev E0 : XK := fun _ _ _ => False
theorem pass0 {X : Cx} : Passes CX0 X E0 := fun _ _ _ _ _ _ _ h => h.elim
structure Fun (K : PySem.W.Frag) (x qual : Str) (st : Stmt) (f : Addr) (fd : FuncData) : Prop where
  ex : ∃ (oc : Value) (od : Option Addr) (kV doc pm : Value) (an : Option Addr) (cdv ct : Value) (osl : Array (Option Value)),
    fd = PySem.W.fnOf x qual (defArgs st) (defBody st) (defScope st) .none kV doc pm an cdv ct ∧ K.lookup f = some ⟨oc, od, .func fd, osl⟩ ∧ PySem.W.codeIn K cdv qual = true
  kp : PySem.W.keepIn K (.ref f) = true
section
variable {P : Program} {w : World} {K : PySem.W.Frag} {mg : Str → Option Value} {base : Heap}
theorem Fun.ok {x qual : Str} {st : Stmt} {f : Addr} {fd : FuncData} {N ps : List Str} {k : Nat} {sp : Sp} (F : Fun K x qual st f fd) (S : FnScope N ps (defScope st)) (len : ∀ vs H Q E, sp vs H Q E → vs.length = ps.length)
    (hbody : ∀ (cdv : Value) (A : Around) (outer : List Env) (s : Shared) (H : Hp) (vs : List V) (Q : VK) (E : XK), Room k (A.deeper (envOfC qual (defScope st) s.heap.objs.size f cdv)) → sp vs H Q E →
      ∃ t, PSs (cxOf CX0 P w K mg base N qual (defScope st) f cdv A outer s H E).nox (defBody st) t ∧ t { nx := fun _ H' => Q .non H', rt := Q } (start N vs) H) : FnOk P w K mg base CX0 (k + 1) f fd ps sp := by
  obtain ⟨oc, od, kV, doc, pm, an, cdv, ct, osl, rfl, lk, hcd⟩ := F.ex
  refine fn_of lk hcd S len fun A outer s H vs Q E hr hsp => ?_
  obtain ⟨t, h, q⟩ := hbody cdv A outer s H vs Q E hr hsp
  exact ⟨t, h.nox, q⟩
theorem Fun.binds {x qual : Str} {st : Stmt} {f : Addr} {fd : FuncData} {ps : List Str} (F : Fun K x qual st f fd)
    (h : ∀ (kV doc pm : Value) (an : Option Addr) (cdv ct : Value) (us : List Value), us.length = ps.length → bindArgs (PySem.W.fnOf x qual (defArgs st) (defBody st) (defScope st) .none kV doc pm an cdv ct) ⟨us, []⟩ = pure (ps.zip us)) : Binds K fd ps [] := by
  obtain ⟨oc, od, kV, doc, pm, an, cdv, ct, osl, rfl, lk, hcd⟩ := F.ex
  exact .all (h kV doc pm an cdv ct)
theorem fun_mk {x qual : Str} {st : Stmt} {f : Addr} {oc : Value} {od an : Option Addr} {osl : Array (Option Value)} {kV doc pm cdv ct : Value} (l : K.lookup f = some ⟨oc, od, .func (PySem.W.fnOf x qual (defArgs st) (defBody st) (defScope st) .none kV doc pm an cdv ct), osl⟩)
    (c : PySem.W.codeIn K cdv qual = true) (k : PySem.W.keepIn K (.ref f) = true) : Fun K x qual st f (PySem.W.fnOf x qual (defArgs st) (defBody st) (defScope st) .none kV doc pm an cdv ct) := ⟨⟨oc, od, kV, doc, pm, an, cdv, ct, osl, rfl, l, c⟩, k⟩
end
theorem hu_of {A : Around} {k : Nat} (hr : Room k A) : A.units + 1 < cLine := Nat.lt_of_le_of_lt (Nat.add_le_add_left (by decide : 1 ≤ 64) _) hr.units
theorem small1000 {n : Nat} (h : n ≤ 1000) : n < sizeLine := Nat.lt_of_le_of_lt h (by decide)
section
variable {X : Cx}
theorem pv (i : Nat) {x : Str} {pos : Pos} (hN : X.N[i]? = some x := by rfl) (hv : Vis X.env.scope x := by first | exact Or.inl rfl | exact Or.inr (Or.inl rfl) | exact Or.inr (Or.inr rfl)) (hd : (x == ("__debug__" : Str)) = false := by decide)
    (hcd : (x == ("__classdict__" : Str)) = false := by decide) : PE X (.Name x pos) (tVar i) := pe_var hN hv hd hcd
theorem call_lenD : CallR X (.builtin "len") (fun xs H Q => ∃ a kvs, xs = [V.ref a] ∧ H a = some (.dK kvs) ∧ Q (.int kvs.length) H) := by
  intro pins s σ H xs us Q I r h
  obtain ⟨a, kvs, rfl, ha, q⟩ := h
  obtain ⟨u, rfl, ru⟩ := vals1 r
  cases ru
  exact d_len I (.inl ha) fun t s' I' => ⟨.int kvs.length, H, I', ⟨t, rfl⟩, q⟩
end
theorem iteF {A B : Prop} (h : B) : if false = true then A else B := by
  rw [if_neg Bool.false_ne_true]
  exact h
theorem iteT {A B : Prop} (h : A) : if true = true then A else B := by
  rw [if_pos rfl]
  exact h
theorem ite2 {c A B : Prop} [Decidable c] (h1 : c → A) (h2 : ¬ c → B) : if c then A else B := by
  by_cases h : c
  · rw [if_pos h]
    exact h1 h
  · rw [if_neg h]
    exact h2 h
def Same (H H' : Hp) : Prop := ∀ b o, H b = some o → H' b = some o
theorem Same.refl (H : Hp) : Same H H := fun _ _ h => h
theorem Same.trans {H H1 H2 : Hp} (a : Same H H1) (b : Same H1 H2) : Same H H2 := fun c o h => b c o (a c o h)
theorem Same.free {H H' : Hp} (e : Same H H') {l : Addr} (h : H' l = Option.none) : H l = Option.none := by
  cases q : H l with
  | none => rfl
  | some o =>
    rw [e l o q] at h
    cases h
theorem Same.seq {K : PySem.W.Frag} {H H' : Hp} {a : Addr} {xs : List V} (e : Same H H') (h : SqL K H a xs) : SqL K H' a xs := by
  rcases h with (h | ⟨o, h⟩) | h
  · exact .inl (.inl (e _ _ h))
  · exact .inl (.inr ⟨o, e _ _ h⟩)
  · exact .inr h
section
variable {κ : Type} [DecidableEq κ]
end
end L2
set_option Elab.async false
set_option linter.all false
set_option maxRecDepth 100000
set_option maxHeartbeats 4000000
namespace L2
open PySem PySem.Spec PyProof.Rows
section
variable {X : Cx} {a b c e : Expr} {ta tb tc te : TE} {pos : Pos}
theorem PE.imp {t t' : TE} (h : PE X e t) (k : ∀ σ H Q, t' σ H Q → t σ H Q) : PE X e t' := fun pins s σ H Q I q => h pins s σ H Q I (k σ H Q q)
theorem OpR.imp {f : Value → Value → Sem Value} {r r' : R2} (h : OpR X f r) (k : ∀ x y H Q, r' x y H Q → r x y H Q) : OpR X f r' := fun pins s σ H x y v u Q I rx ry q => h pins s σ H x y v u Q I rx ry (k x y H Q q)
theorem IxR.imp {r r' : R2} (h : IxR X r) (k : ∀ x y H Q, r' x y H Q → r x y H Q) : IxR X r' := fun va sl pins s σ H x y v u Q I rx ry q hs => h va sl pins s σ H x y v u Q I rx ry (k x y H Q q) hs
theorem CallR.imp {f : Value} {r r' : List V → Hp → VK → Prop} (h : CallR X f r) (k : ∀ xs H Q, r' xs H Q → r xs H Q) : CallR X f r' := fun pins s σ H xs us Q I rx q => h pins s σ H xs us Q I rx (k xs H Q q)
theorem PSet.imp {t t' : TSet} (h : PSet X t) (k : ∀ o i v H Q, t' o i v H Q → t o i v H Q) : PSet X t' := fun pins s σ H o i v ov iv u Q I ro ri rv q => h pins s σ H o i v ov iv u Q I ro ri rv (k o i v H Q q)
theorem PSet.or {t t' : TSet} (h : PSet X t) (h' : PSet X t') : PSet X (fun o i v H Q => t o i v H Q ∨ t' o i v H Q) := fun pins s σ H o i v ov iv u Q I ro ri rv q => by
  rcases q with q | q
  · exact h pins s σ H o i v ov iv u Q I ro ri rv q
  · exact h' pins s σ H o i v ov iv u Q I ro ri rv q
def tV (i : Nat) : TE := fun σ H Q => match σ[i]? with | some (some v) => Q v H | _ => False
theorem qv (i : Nat) {x : Str} {pos : Pos} (hN : X.N[i]? = some x := by rfl) (hv : Vis X.env.scope x := by first | exact Or.inl rfl | exact Or.inr (Or.inl rfl) | exact Or.inr (Or.inr rfl)) (hd : (x == ("__debug__" : Str)) = false := by decide)
    (hcd : (x == ("__classdict__" : Str)) = false := by decide) : PE X (.Name x pos) (tV i) := (pe_var hN hv hd hcd).imp fun σ H Q h => by
  unfold tV at h
  split at h
  · rename_i v ev
    exact ⟨v, ev, h⟩
  · exact h.elim
def rA2 (C : Int → Int → Prop) (g : Int → Int → V) : R2 := fun x y H Q => match x, y with | .int i, .int j => C i j ∧ Q (g i j) H | _, _ => False
def rA0 (g : Int → Int → V) : R2 := fun x y H Q => match x, y with | .int i, .int j => Q (g i j) H | _, _ => False
theorem of_rI {f : Value → Value → Sem Value} {C : Int → Int → Prop} {g : Int → Int → V} (h : OpR X f (rI C g)) : OpR X f (rA2 C g) := h.imp fun x y H Q q => by
  unfold rA2 at q
  split at q
  · exact ⟨_, _, rfl, rfl, q.1, q.2⟩
  · exact q.elim
theorem of_rI0 {f : Value → Value → Sem Value} {g : Int → Int → V} (h : OpR X f (rI0 g)) : OpR X f (rA0 g) := h.imp fun x y H Q q => by
  unfold rA0 at q
  split at q
  · exact ⟨_, _, rfl, rfl, q⟩
  · exact q.elim
theorem oq_sub : OpR X (binaryOp .Sub) (rA0 fun i j => .int (i - j)) := of_rI0 op_sub
theorem oq_mod : OpR X (binaryOp .Mod) (rA2 (fun _ j => 0 < j) fun i j => .int (i % j)) := of_rI op_mod
theorem oq_div : OpR X (binaryOp .FloorDiv) (rA2 CDiv fun i j => .int (i / j)) := of_rI op_fdiv
theorem oq_pow : OpR X (binaryOp .Pow) (rA2 CPow fun i j => .int (i ^ j.toNat)) := of_rI op_pow
theorem oq_lt : OpR X (compareOp .Lt) (rA0 fun i j => .bl (decide (i < j))) := of_rI0 op_lt
theorem oq_le : OpR X (compareOp .LtE) (rA0 fun i j => .bl (decide (i ≤ j))) := of_rI0 op_le
theorem oq_gt : OpR X (compareOp .Gt) (rA0 fun i j => .bl (decide (j < i))) := of_rI0 op_gt
theorem oq_ge : OpR X (compareOp .GtE) (rA0 fun i j => .bl (decide (j ≤ i))) := of_rI0 op_ge
def rAddA (K : PySem.W.Frag) : R2 := fun x y H Q => match x, y with
  | .int i, .int j => Q (.int (i + j)) H
  | .str i, .str j => i.length + j.length ≤ sizeLine ∧ Q (.str (i ++ j)) H
  | .ref p, .ref q => rCat (.ref p) (.ref q) H Q ∨ rCatT K (.ref p) (.ref q) H Q
  | _, _ => False
theorem oq_add (K : PySem.W.Frag) (hK : X.K = K := by rfl) : OpR X (binaryOp .Add) (rAddA K) := hK ▸ ((op_add.or op_add_str).or (op_cat.or op_catT)).imp fun x y H Q q => by
  unfold rAddA at q
  split at q
  · exact .inl (.inl ⟨_, _, rfl, rfl, q⟩)
  · exact .inl (.inr ⟨_, _, rfl, rfl, q.1, q.2⟩)
  · exact .inr q
  · exact q.elim
def rMulA : R2 := fun x y H Q => match x, y with
  | .int i, .int j => CMul i j ∧ Q (.int (i * j)) H
  | .ref p, .int k => rRep (.ref p) (.int k) H Q
  | _, _ => False
theorem oq_mul : OpR X (binaryOp .Mult) rMulA := (op_mul.or op_rep).imp fun x y H Q q => by
  unfold rMulA at q
  split at q
  · exact .inl ⟨_, _, rfl, rfl, q.1, q.2⟩
  · exact .inr q
  · exact q.elim
def isRef : V → Bool | .ref _ => true | _ => false
def rEqA (K : PySem.W.Frag) : R2 := fun x y H Q => match isRef x || isRef y with
  | true => rEqD K x y H Q
  | false => scal x y = true ∧ Q (.bl (decide (x = y))) H
def rNeA (K : PySem.W.Frag) : R2 := fun x y H Q => match isRef x || isRef y with
  | true => rNeD K x y H Q
  | false => scal x y = true ∧ Q (.bl (!decide (x = y))) H
theorem oq_eq (K : PySem.W.Frag) (hu : X.A.units + 64 < cLine) (hK : X.K = K := by rfl) : OpR X (compareOp .Eq) (rEqA K) := hK ▸ ((op_eqD hu).or op_eq).imp fun x y H Q q => by
  unfold rEqA at q
  split at q
  · exact .inl q
  · exact .inr q
theorem oq_ne (K : PySem.W.Frag) (hu : X.A.units + 64 < cLine) (hK : X.K = K := by rfl) : OpR X (compareOp .NotEq) (rNeA K) := hK ▸ ((op_neD hu).or op_ne).imp fun x y H Q q => by
  unfold rNeA at q
  split at q
  · exact .inl q
  · exact .inr q
theorem ix_dict (hu : X.A.units + 1 < cLine) : IxR X (fun x y H Q => ∃ p v, x = .ref p ∧ DGet H p y (some v) ∧ Q v H) := by
  intro value slice pins s σ H x y v u Q I rx ry h hs
  obtain ⟨p, z, rfl, g, q⟩ := h
  cases rx
  refine tail_any (dict_typeIs I g) PySem.F.slot_dict_getitem.lookup (d_getItem hu I g ry fun w' s3 I3 rw' => ⟨z, H, I3, rw', q⟩) hs
def rIxA (K : PySem.W.Frag) : R2 := fun x y H Q => match x, y with
  | .ref p, .int i => (∃ xs v, SqL K H p xs ∧ atI xs i = some v ∧ Q v H) ∨ (∃ xs v, SqT K H p xs ∧ atI xs i = some v ∧ Q v H) ∨ ∃ v, DGet H p (.int i) (some v) ∧ Q v H
  | .ref p, .str z => ∃ v, DGet H p (.str z) (some v) ∧ Q v H
  | .str z, .int i => z.length ≤ sizeLine ∧ ∃ c, atI z.cps.toList i = some c ∧ Q (.str ⟨#[c]⟩) H
  | _, _ => False
theorem iq (K : PySem.W.Frag) (hu : X.A.units + 1 < cLine) (hK : X.K = K := by rfl) : IxR X (rIxA K) := hK ▸ (ix_seq.or (ix_dict hu)).imp fun x y H Q q => by
  unfold rIxA at q
  split at q
  · rcases q with ⟨xs, v, h1, h2, h3⟩ | ⟨xs, v, h1, h2, h3⟩ | ⟨v, h1, h2⟩
    · exact .inl (.inl ⟨_, _, _, _, rfl, rfl, h1, h2, h3⟩)
    · exact .inl (.inr (.inl ⟨_, _, _, _, rfl, rfl, h1, h2, h3⟩))
    · exact .inr ⟨_, _, rfl, h1, h2⟩
  · obtain ⟨v, h1, h2⟩ := q
    exact .inr ⟨_, _, rfl, h1, h2⟩
  · obtain ⟨h1, c, h2, h3⟩ := q
    exact .inl (.inr (.inr ⟨_, _, _, rfl, rfl, h1, h2, h3⟩))
  · exact q.elim
theorem set_dict (hu : X.A.units + 1 < cLine) : PSet X (fun o i v H Q => ∃ p H', o = .ref p ∧ DPut H p i v H' ∧ Q H') := by
  intro pins s σ H o i v ov iv u Q I ro ri rv h
  obtain ⟨p, H', rfl, g, q⟩ := h
  cases ro
  exact d_setItem hu I g ri rv fun s4 I4 => ⟨H', I4, q⟩
def rSetA : TSet := fun o i v H Q => match o, i with
  | .ref p, .int k => (∃ xs j, H p = some (.lst xs) ∧ ixN xs.length k = some j ∧ Q (upd H p (.lst (xs.set j v)))) ∨ ∃ kvs, H p = some (.dK kvs) ∧ kvs.length < sizeLine ∧ Q (upd H p (.dK (putK kvs (.inl k) v)))
  | .ref p, .str z => ∃ kvs, H p = some (.dK kvs) ∧ kvs.length < sizeLine ∧ Q (upd H p (.dK (putK kvs (.inr z) v)))
  | _, _ => False
theorem sq (hu : X.A.units + 1 < cLine) : PSet X rSetA := (set_list.or (set_dict hu)).imp fun o i v H Q q => by
  unfold rSetA at q
  split at q
  · rcases q with ⟨xs, j, h1, h2, h3⟩ | ⟨kvs, h1, h2, h3⟩
    · exact .inl ⟨_, _, _, _, rfl, rfl, h1, h2, h3⟩
    · exact .inr ⟨_, _, rfl, DPut.k (k := .inl _) h1 h2, h3⟩
  · obtain ⟨kvs, h1, h2, h3⟩ := q
    exact .inr ⟨_, _, rfl, DPut.k (k := .inr _) h1 h2, h3⟩
  · exact q.elim
def rLenA (K : PySem.W.Frag) : List V → Hp → VK → Prop := fun xs H Q => match xs with
  | [.ref p] => (∃ ys, SqL K H p ys ∧ Q (.int ys.length) H) ∨ (∃ ys, SqT K H p ys ∧ Q (.int ys.length) H) ∨ ∃ kvs, H p = some (.dK kvs) ∧ Q (.int kvs.length) H
  | [.str z] => z.length ≤ sizeLine ∧ Q (.int z.length) H
  | _ => False
theorem cq_len (K : PySem.W.Frag) (hK : X.K = K := by rfl) : CallR X (.builtin "len") (rLenA K) := hK ▸ ((call_len_seq.or call_len_str).or call_lenD).imp fun xs H Q q => by
  unfold rLenA at q
  split at q
  · rcases q with ⟨ys, h1, h2⟩ | ⟨ys, h1, h2⟩ | ⟨kvs, h1, h2⟩
    · exact .inl (.inl ⟨_, _, rfl, .inl h1, h2⟩)
    · exact .inl (.inl ⟨_, _, rfl, .inr h1, h2⟩)
    · exact .inr ⟨_, _, rfl, h1, h2⟩
  · exact .inl (.inr ⟨_, rfl, q.1, q.2⟩)
  · exact q.elim
end
theorem oq_in {X : Cx} (K : PySem.W.Frag) (hK : X.K = K := by rfl) : OpR X (compareOp .In) (rIn K false) := by
  subst hK
  exact op_in_seq
theorem sq_tup {X : Cx} (K : PySem.W.Frag) (hK : X.K = K := by rfl) : SlR X (rSlT K) := by
  subst hK
  exact sl_tup
theorem sq_list {X : Cx} (K : PySem.W.Frag) (hK : X.K = K := by rfl) : SlR X (rSlL K) := by
  subst hK
  exact sl_list
def tPut (vs : List V) : TA := fun _ H Q => Q vs H
section
variable {X : Cx} {es : List Expr} {vs : List V} {j : Nat} {p : Pos}
theorem pa_n0 : PA X [] (tPut []) := pa_nil
theorem pa_cs {x : Str} (h : PA X es (tPut vs)) : PA X (.Constant (.str x) j p :: es) (tPut (.str x :: vs)) := pa_cons pe_str h rfl
theorem pa_ci {x : Int} (h : PA X es (tPut vs)) : PA X (.Constant (.int x) j p :: es) (tPut (.int x :: vs)) := pa_cons pe_int h rfl
theorem pa_cb {x : Bool} (h : PA X es (tPut vs)) : PA X (.Constant (.bool x) j p :: es) (tPut (.bl x :: vs)) := pa_cons pe_bl h rfl
theorem pa_cn (h : PA X es (tPut vs)) : PA X (.Constant .none j p :: es) (tPut (.non :: vs)) := pa_cons pe_non h rfl
end
def isC1 : Expr → V → Bool
  | .Constant (.int i) _ _, .int j => decide (i = j)
  | .Constant (.str x) _ _, .str y => decide (x = y)
  | .Constant (.bool b) _ _, .bl c => decide (b = c)
  | .Constant .none _ _, .non => true
  | _, _ => false
def isC : List Expr → List V → Bool
  | [], [] => true
  | e :: es, v :: vs => isC1 e v && isC es vs
  | _, _ => false
theorem pa_lits {X : Cx} : ∀ {es : List Expr} (vs : List V), isC es vs = true → PA X es (tPut vs)
  | [], [], _ => pa_n0
  | [], _ :: _, h => by cases h
  | _ :: _, [], h => by cases h
  | e :: es, v :: vs, h => by
    obtain ⟨h1, h2⟩ := Bool.and_eq_true_iff.mp (show (isC1 e v && isC es vs) = true from h)
    have ih := pa_lits (X := X) vs h2
    unfold isC1 at h1
    split at h1
    · cases of_decide_eq_true h1; exact pa_ci ih
    · cases of_decide_eq_true h1; exact pa_cs ih
    · cases of_decide_eq_true h1; exact pa_cb ih
    · exact pa_cn ih
    · cases h1
def tPar3 (i j l : Nat) (ta : TA) : TS := fun D σ H => ta σ H fun vs H1 => match vs with
  | [v, w, z] => D.nx (((σ.set i (some v)).set j (some w)).set l (some z)) H1
  | _ => False
theorem ps_par3 {X : Cx} {pos : Pos} {i j l : Nat} {x y z : Str} {a b c : Expr} {ta : TA} {px py pz pt : Pos} {kt k2 pt2} (hc : X.calm = true) (hN : X.N.Nodup) (hi : X.N[i]? = some x) (hj : X.N[j]? = some y) (hl : X.N[l]? = some z) (hij : i ≠ j) (hil : i ≠ l) (hjl : j ≠ l)
    (hx : X.env.scope.names.lookup x = some .local) (hy : X.env.scope.names.lookup y = some .local) (hz : X.env.scope.names.lookup z = some .local) (ha : PA X [a, b, c] ta)
    (hw : swappedStores [.Tuple [.Name x px, .Name y py, .Name z pz] kt pt] (.Tuple [a, b, c] k2 pt2) X.env = pure (some [x, y, z]) := by rfl)
    (hs : swapsWithSole [.Tuple [.Name x px, .Name y py, .Name z pz] kt pt] (.Tuple [a, b, c] k2 pt2) pos.line X.env = pure false := by rfl) :
    PS X (.Assign [.Tuple [.Name x px, .Name y py, .Name z pz] kt pt] (.Tuple [a, b, c] k2 pt2) pos) (tPar3 i j l ta) := by
  intro pins s σ H D I h
  rw [exec_Assign_arm]
  refine wpAny_bind (wpAny_standAt ?_)
  rw [hs]
  refine wpAny_bind (wpAny_pure ?_)
  rw [if_neg (by decide)]
  refine wpAny_bind (Tuple_ (thn (ha _ pins s σ H _ I h) fun us s1 ⟨vs, H1, I1, r1, q1⟩ => ?_))
  dsimp only at q1
  split at q1
  · rename_i v w q
    obtain ⟨u1, u2, u3, rfl, rv, rw', rq⟩ : ∃ u1 u2 u3, us = [u1, u2, u3] ∧ RelV v u1 ∧ RelV w u2 ∧ RelV q u3 := by
      cases r1 with
      | cons p q =>
        cases q with
        | cons p' q' =>
          cases q' with
          | cons p'' q'' =>
            cases q''
            exact ⟨_, _, _, rfl, p, p', p''⟩
    refine wpAny_newObj_type ?_ (by show 3 ≤ sizeLine; decide)
    have I2 : Inv X pins σ H1 { s1 with heap := s1.heap.push { cls := .type "tuple", data := .seq [u1, u2, u3].toArray } } := I1.kept (t' := s1.toks) fun b o e => Heap.get?_push_of_some _ e
    rw [hw]
    refine wpAny_bind (wpAny_pure ?_)
    show wpAny (model X.prog X.w) X.A (do rule "assign.swapped-stores"; let items ← unpackItems (.ref s1.heap.objs.size) 3 none; assignInOrder [fun v => bindName X.env z v, fun v => bindName X.env y v, fun v => bindName X.env x v] items.reverse; pure Flow.next) _ _ _
    refine wpAny_bind (wpAny_rule (wpAny_bind (unpackItems_tuple (items := #[u1, u2, u3]) (I.ok.hd hc) (IsTup.new s1.heap _) fun h' hx' => ?_)))
    have I3 := I2.kept (h' := h') (t' := s1.toks) fun b o e => hx' b o (Nat.ne_of_lt (Heap.lt_size e)) e
    show wpAny _ _ (assignInOrder [fun v => bindName X.env z v, fun v => bindName X.env y v, fun v => bindName X.env x v] [u3, u2, u1] >>= fun _ => pure Flow.next) _ _ _
    refine wpAny_bind (assignInOrder_cons (wpAny_bindName (store_ok I3 hN hl (.inl hz) rq (fun s2 I4 => ?_) (.inr hz))))
    refine assignInOrder_cons (wpAny_bindName (store_ok I4 hN hj (.inl hy) rw' (fun s3 I5 => ?_) (.inr hy)))
    refine assignInOrder_cons (wpAny_bindName (store_ok I5 hN hi (.inl hx) rv (fun s4 I6 => assignInOrder_nil (wpAny_pure ?_)) (.inr hx)))
    rw [List.set_comm _ _ (Ne.symm hjl), List.set_comm _ _ (Ne.symm hil), List.set_comm _ _ (Ne.symm hij)] at I6
    exact ⟨_, H1, I6, q1⟩
  · exact q1.elim
structure Df (P : Program) (w : World) (K : PySem.W.Frag) (mg : Str → Option Value) (base : Heap) (k : Nat) (x : Str) (ps : List Str) (dvs : List V) (sp : Sp) : Prop where
  ex : ∃ (f : Addr) (fd : FuncData) (ds : List Value), FnOk P w K mg base CX0 k f fd ps sp ∧ mg x = some (.ref f) ∧ PySem.W.keepIn K (.ref f) = true ∧ Binds K fd ps ds ∧ Vals dvs ds
section
variable {X : Cx} {k : Nat} {x : Str} {ps : List Str} {dvs : List V} {sp : Sp} {t : TA} {e : Expr} {es : List Expr} {p pos : Pos}
theorem qcall (F : Df X.prog X.w X.K X.mg X.base k x ps dvs sp) (hr : Room k X.A) (ha : PA X (e :: es) t) (hg : Gl X x := by rfl) (hdb : (x == ("__debug__" : Str)) = false := by decide) (he : starEach (e :: es) X.env = (false, eval e X.env) :: starEach es X.env := by rfl) (hpl : (backTo pos (starEach es X.env)).any (·.1) = false := by rfl) :
    PE X (.Call (.Name x p) (e :: es) [] pos) (tCall sp dvs E0 t) := by
  obtain ⟨f, fd, ds, F, hm, hk, hb, hd⟩ := F.ex
  exact pe_call F hr hg hm hk hb hd pass0 ha hdb he hpl
end
end L2
set_option Elab.async false
set_option linter.all false
set_option maxRecDepth 100000
set_option maxHeartbeats 4000000
namespace L2
open PySem PySem.Spec PyProof.Rows
theorem for_by {J : It} {n : Nat} {g : TG} {tb : TS} {D : Ends} {σ : St} {H : Hp} (Pv : Nat → St → Hp → Prop) (h0 : Pv 0 σ H) (hgo : ∀ i σ H, i < n → Pv i σ H → J.go i H) (hst : ∀ σ H, Pv n σ H → J.stop n H)
    (hs : ∀ i σ H x H', i < n → Pv i σ H → J.yld i H x H' → g x σ H' fun σ2 H2 => tb { D with nx := Pv (i + 1), ct := Pv (i + 1), bk := D.nx } σ2 H2) (hd : ∀ σ H, Pv n σ H → D.nx σ H) :
    ∃ W : Nat → Nat → St → Hp → Prop, (∃ m, W 0 m σ H) ∧ ∀ i m σ H, W i m σ H →
      (J.stop i H ∧ D.nx σ H) ∨ (J.go i H ∧ ∃ N : St → Hp → Prop, (∀ σ' H', N σ' H' → ∃ m', m' < m ∧ W (i + 1) m' σ' H') ∧ ∀ x H', J.yld i H x H' → g x σ H' fun σ2 H2 => tb { D with nx := N, ct := N, bk := D.nx } σ2 H2) := by
  refine ⟨fun i m σ H => m = n - i ∧ i ≤ n ∧ Pv i σ H, ⟨n, by simp, Nat.zero_le _, h0⟩, ?_⟩
  rintro i m σ H ⟨rfl, hi, p⟩
  by_cases hlt : i < n
  · refine .inr ⟨hgo i σ H hlt p, Pv (i + 1), fun σ' H' p' => ⟨n - (i + 1), by omega, rfl, hlt, p'⟩, fun x H' y => ?_⟩
    exact hs i σ H x H' hlt p y
  · have e : i = n := by omega
    subst e
    exact .inl ⟨hst σ H p, hd σ H p⟩
theorem lc_by {J : It} {n : Nat} {g : TG} {tt : TT} {te : TE} {vs : List Nat} {σ : St} {H1 : Hp} {D : Addr} {Qd : Hp → Prop} (Pv : Nat → Hp → Prop) (h0 : Pv 0 (upd H1 D (.lst []))) (hgo : ∀ i H, i < n → Pv i H → J.go i H) (hst : ∀ H, Pv n H → J.stop n H)
    (hs : ∀ i H x H', i < n → Pv i H → J.yld i H x H' → g x (wipe σ vs) H' fun σ2 H2 => wipe σ2 vs = wipe σ vs ∧ tt σ2 H2 fun b H3 =>
      if b = true then te σ2 H3 fun y H4 => ∃ acc, H4 D = some (.lst acc) ∧ acc.length < sizeLine ∧ Pv (i + 1) (upd H4 D (.lst (acc ++ [y]))) else Pv (i + 1) H3) (hd : ∀ H, Pv n H → Qd H) :
    ∃ W : Nat → Nat → Hp → Prop, (∃ m, W 0 m (upd H1 D (.lst []))) ∧ ∀ i m H, W i m H →
      (J.stop i H ∧ Qd H) ∨ (J.go i H ∧ ∃ Nx : Hp → Prop, (∀ H', Nx H' → ∃ m', m' < m ∧ W (i + 1) m' H') ∧ ∀ x H', J.yld i H x H' → g x (wipe σ vs) H' fun σ2 H2 => wipe σ2 vs = wipe σ vs ∧ tt σ2 H2 fun b H3 =>
        if b = true then te σ2 H3 fun y H4 => ∃ acc, H4 D = some (.lst acc) ∧ acc.length < sizeLine ∧ Nx (upd H4 D (.lst (acc ++ [y]))) else Nx H3) := by
  refine ⟨fun i m H => m = n - i ∧ i ≤ n ∧ Pv i H, ⟨n, by simp, Nat.zero_le _, h0⟩, ?_⟩
  rintro i m H ⟨rfl, hi, p⟩
  by_cases hlt : i < n
  · refine .inr ⟨hgo i H hlt p, Pv (i + 1), fun H' p' => ⟨n - (i + 1), by omega, rfl, hlt, p'⟩, fun x H' y => ?_⟩
    exact hs i H x H' hlt p y
  · have e : i = n := by omega
    subst e
    exact .inl ⟨hst H p, hd H p⟩
theorem tSeq.cut {t u : TS} {D : Ends} {σ : St} {H : Hp} (M : St → Hp → Prop) (h2 : ∀ σ' H', M σ' H' → u D σ' H') (h1 : (∀ σ' H', M σ' H' → u D σ' H') → tSeq t u D σ H) : tSeq t u D σ H := h1 h2
end L2
namespace Tm
open PySem L2
theorem same_new {H : Hp} {p : Addr} (h : H p = none) (o : HO) : Same H (upd H p o) := fun b u q => by rw [upd_ne (ne_of_none q h)]; exact q
def Up (S : List Addr) (H H' : Hp) : Prop := ∀ b o, H b = some o → b ∉ S → H' b = some o
theorem Up.refl (S : List Addr) (H : Hp) : Up S H H := fun _ _ h _ => h
theorem Up.trans {S : List Addr} {H H1 H2 : Hp} (a : Up S H H1) (b : Up S H1 H2) : Up S H H2 := fun c o h n => b c o (a c o h n) n
theorem Up.mono {S S' : List Addr} {H H' : Hp} (a : Up S H H') (h : ∀ x ∈ S, x ∈ S') : Up S' H H' := fun c o e n => a c o e fun z => n (h c z)
theorem Same.up {S : List Addr} {H H' : Hp} (a : Same H H') : Up S H H' := fun c o h _ => a c o h
theorem Up.put {S : List Addr} {R : Addr} (H : Hp) (o : HO) (h : R ∈ S) : Up S H (upd H R o) := fun c o' e n => by
  rw [upd_ne]
  · exact e
  · rintro rfl
    exact n h
theorem Up.at (R : Addr) (H : Hp) (o : HO) : Up [R] H (upd H R o) := Up.put H o (List.mem_singleton.mpr rfl)
def Frz (K : PySem.W.Frag) (H : Hp) (a : Addr) (xs : List V) : Prop := (∃ ob, H a = some (.frz ob (.lst xs))) ∨
    ∃ (o : Obj) (its : Array Value) (n : Nat), K.lookup a = some o ∧ o.cls = .type "list" ∧ o.dict = none ∧ o.data = .seq its n ∧ its.size ≤ sizeLine ∧ Vals xs its.toList
theorem Frz.sq {K : PySem.W.Frag} {H : Hp} {a : Addr} {xs : List V} (h : Frz K H a xs) : SqL K H a xs := by
  rcases h with ⟨ob, h⟩ | h
  · exact .inl (.inr ⟨ob, h⟩)
  · exact .inr h
def Soft : Option HO → Prop
  | none => True
  | some (.lst _) => True
  | some (.dK _) => True
  | some (.ins _ _ _) => True
  | some (.own _) => True
  | _ => False
theorem Frz.upd {K : PySem.W.Frag} {H : Hp} {a D : Addr} {xs : List V} {o : HO} (h : Frz K H a xs) (hD : Soft (H D)) : Frz K (upd H D o) a xs := by
  rcases h with ⟨ob, h⟩ | h
  · refine .inl ⟨ob, ?_⟩
    rw [upd_ne]
    · exact h
    · rintro rfl
      rw [h] at hD
      exact hD
  · exact .inr h
theorem Frz.same {K : PySem.W.Frag} {H H' : Hp} {a : Addr} {xs : List V} (h : Frz K H a xs) (s : Same H H') : Frz K H' a xs := by
  rcases h with ⟨ob, h⟩ | h
  · exact .inl ⟨ob, s _ _ h⟩
  · exact .inr h
theorem Frz.up {K : PySem.W.Frag} {H H' : Hp} {a : Addr} {xs : List V} {S : List Addr} (h : Frz K H a xs) (u : Up S H H') (hs : ∀ b ∈ S, Soft (H b)) : Frz K H' a xs := by
  rcases h with ⟨ob, h⟩ | h
  · refine .inl ⟨ob, u _ _ h fun z => ?_⟩
    have q := hs _ z
    rw [h] at q
    exact q
  · exact .inr h
def RowAt (K : PySem.W.Frag) (H : Hp) (R : Addr) : Prop := ∃ (a : Addr) (ns : List Int) (i s c : Int), H R = some (.lst [.ref a, .int i, .int s, .int c]) ∧ Frz K H a (ns.map V.int) ∧ ns.length ≤ 63 ∧ 0 ≤ i
theorem RowAt.put {K : PySem.W.Frag} {H : Hp} {R a : Addr} {ns : List Int} {i s c : Int} (f : Frz K H a (ns.map V.int)) (l : ns.length ≤ 63) (h : 0 ≤ i) (e : Soft (H R)) : RowAt K (upd H R (.lst [.ref a, .int i, .int s, .int c])) R :=
  ⟨a, ns, i, s, c, upd_same, f.upd e, l, h⟩
theorem RowAt.lst {K : PySem.W.Frag} {H : Hp} {R : Addr} (h : RowAt K H R) : ∃ xs, H R = some (.lst xs) := by
  obtain ⟨a, ns, i, s, c, hR, _⟩ := h
  exact ⟨_, hR⟩
theorem RowAt.soft {K : PySem.W.Frag} {H : Hp} {R : Addr} (h : RowAt K H R) : Soft (H R) := by
  obtain ⟨xs, e⟩ := h.lst
  rw [e]
  trivial
theorem RowAt.ne {K : PySem.W.Frag} {H : Hp} {R p : Addr} (h : RowAt K H R) (e : H p = none) : p ≠ R := by
  obtain ⟨xs, q⟩ := h.lst
  exact (ne_of_none q e).symm
theorem RowAt.upd {K : PySem.W.Frag} {H : Hp} {R D : Addr} (h : RowAt K H R) (n : D ≠ R) (hD : Soft (H D)) (o : HO) : RowAt K (upd H D o) R := by
  obtain ⟨a, ns, i, s, c, hR, f, hl, hi⟩ := h
  exact ⟨a, ns, i, s, c, by rw [upd_ne n.symm]; exact hR, f.upd hD, hl, hi⟩
theorem RowAt.up {K : PySem.W.Frag} {H H' : Hp} {R : Addr} {S : List Addr} (h : RowAt K H R) (u : Up S H H') (n : R ∉ S) (hs : ∀ b ∈ S, Soft (H b)) : RowAt K H' R := by
  obtain ⟨a, ns, i, s, c, hR, f, hl, hi⟩ := h
  exact ⟨a, ns, i, s, c, u _ _ hR n, f.up u hs, hl, hi⟩
theorem soft_none {H : Hp} {p : Addr} (h : H p = none) : Soft (H p) := by
  rw [h]
  trivial
theorem soft_lst {H : Hp} {p : Addr} {xs : List V} (h : H p = some (.lst xs)) : Soft (H p) := by
  rw [h]
  trivial
theorem soft_dK {H : Hp} {p : Addr} {xs : List (Key × V)} (h : H p = some (.dK xs)) : Soft (H p) := by
  rw [h]
  trivial
structure Tx (mg : Str → Option Value) : Prop where
  len : mg "len" = none
  range : mg "range" = none
  isinstance : mg "isinstance" = none
  int : mg "int" = none
  bool : mg "bool" = none
  str : mg "str" = none
  tuple : mg "tuple" = none
  list : mg "list" = none
  dict : mg "dict" = none
  min : mg "min" = none
  max : mg "max" = none
  all : mg "all" = none
  any : mg "any" = none
  enumerate : mg "enumerate" = none
  zip : mg "zip" = none
  sorted : mg "sorted" = none
theorem RowAt.same {K : PySem.W.Frag} {H H' : Hp} {R : Addr} (h : RowAt K H R) (u : Same H H') : RowAt K H' R := by
  obtain ⟨a, ns, i, s, c, hR, f, hl, hi⟩ := h
  exact ⟨a, ns, i, s, c, u _ _ hR, f.same u, hl, hi⟩
structure On (K : PySem.W.Frag) (R : Addr) (H H' : Hp) : Prop where
  row : RowAt K H' R
  up : Up [R] H H'
theorem On.refl {K : PySem.W.Frag} {R : Addr} {H : Hp} (h : RowAt K H R) : On K R H H := ⟨h, Up.refl _ H⟩
theorem On.trans {K : PySem.W.Frag} {R : Addr} {H H1 H2 : Hp} (a : On K R H H1) (b : On K R H1 H2) : On K R H H2 := ⟨b.row, a.up.trans b.up⟩
theorem On.new {K : PySem.W.Frag} {R : Addr} {H H1 : Hp} {p : Addr} (a : On K R H H1) (h : H1 p = none) (o : HO) : On K R H (upd H1 p o) := ⟨a.row.same (same_new h o), a.up.trans (Same.up (same_new h o))⟩
theorem On.same {K : PySem.W.Frag} {R : Addr} {H H1 H2 : Hp} (a : On K R H H1) (s : Same H1 H2) : On K R H H2 := ⟨a.row.same s, a.up.trans (Same.up s)⟩
theorem On.at {K : PySem.W.Frag} {R : Addr} {H H1 : Hp} {p : Addr} {o : HO} (a : On K R H H1) (e : H p = some o) (n : p ≠ R) : H1 p = some o := a.up _ _ e fun z => n (List.mem_singleton.mp z)
theorem On.fill {K : PySem.W.Frag} {R : Addr} {H H1 : Hp} {D : Addr} (a : On K R H H1) (h : H D = none) (n : D ≠ R) (e : Soft (H1 D)) (o : HO) : On K R H (upd H1 D o) :=
  ⟨a.row.upd n e o, fun b u q z => by rw [upd_ne (ne_of_none q h)]; exact a.up b u q z⟩
theorem On.none {K : PySem.W.Frag} {R : Addr} {H H1 : Hp} {p : Addr} (a : On K R H H1) (e : H1 p = none) (n : p ≠ R) : H p = none := by
  cases q : H p with
  | none => rfl
  | some o =>
    rw [a.at q n] at e
    cases e
def spDraw (K : PySem.W.Frag) (W : V → Hp → Prop) : Sp := fun vs H Q _ => ∃ (R : Addr), vs = [.ref R] ∧ RowAt K H R ∧ ∀ (v : V) (H' : Hp), On K R H H' → W v H' → Q v H'
def spTaken (K : PySem.W.Frag) : Sp := fun vs H Q _ => ∃ (R : Addr) (m : Int), vs = [.ref R, .int m] ∧ RowAt K H R ∧ 0 < m ∧ m < 1073741824 ∧ ∀ (n : Int) (H' : Hp), 0 ≤ n → n < m → On K R H H' → Q (.int n) H'
end Tm
namespace Tm
open PySem L2
def top (i : Nat) : Stmt := PySem.Challenge.pw_tagmachine_k19_texts_refused.main.body.getD i (.Pass ⟨0, 0, 0, 0⟩)
end Tm
set_option Elab.async false
set_option linter.all false
set_option maxRecDepth 100000
set_option maxHeartbeats 4000000
namespace L2
open PySem PySem.Spec PyProof.Rows
structure Isi where
  i : Bool
  b : Bool
  s : Bool
  n : Bool
  t : Bool
  l : Bool
def rIsi (z : Isi) (x : V) (H : Hp) (Q : VK) : Prop := match x with
  | .int _ => Q (.bl z.i) H
  | .bl _ => Q (.bl z.b) H
  | .str _ => Q (.bl z.s) H
  | .non => Q (.bl z.n) H
  | .ref a => (∃ ys, H a = some (.tup ys) ∧ Q (.bl z.t) H) ∨ ∃ ys, H a = some (.lst ys) ∧ Q (.bl z.l) H
  | _ => False
structure IsiOk (K : PySem.W.Frag) (c : Value) (z : Isi) : Prop where
  i : PySem.W.kitOne K (.type "int") c = some z.i
  b : PySem.W.kitOne K (.type "bool") c = some z.b
  s : PySem.W.kitOne K (.type "str") c = some z.s
  n : PySem.W.kitOne K (.type "NoneType") c = some z.n
  t : PySem.W.kitOne K (.type "tuple") c = some z.t
  l : PySem.W.kitOne K (.type "list") c = some z.l
theorem isi_int (K : PySem.W.Frag) : IsiOk K (.type "int") ⟨true, true, false, false, false, false⟩ := ⟨rfl, rfl, rfl, rfl, rfl, rfl⟩
theorem isi_bool (K : PySem.W.Frag) : IsiOk K (.type "bool") ⟨false, true, false, false, false, false⟩ := ⟨rfl, rfl, rfl, rfl, rfl, rfl⟩
theorem isi_str (K : PySem.W.Frag) : IsiOk K (.type "str") ⟨false, false, true, false, false, false⟩ := ⟨rfl, rfl, rfl, rfl, rfl, rfl⟩
theorem isi_tuple (K : PySem.W.Frag) : IsiOk K (.type "tuple") ⟨false, false, false, false, true, false⟩ := ⟨rfl, rfl, rfl, rfl, rfl, rfl⟩
theorem isi_list (K : PySem.W.Frag) : IsiOk K (.type "list") ⟨false, false, false, false, false, true⟩ := ⟨rfl, rfl, rfl, rfl, rfl, rfl⟩
section
variable {X : Cx} {e : Expr} {te : TE} {cls : Str} {T : String} {z : Isi} {p p' pos : Pos}
theorem cr_isi (ok : IsiOk X.K (.type T) z) : CallR X (.builtin "isinstance") (fun xs H Q => ∃ x, xs = [x, .ty T] ∧ rIsi z x H Q) := by
  intro pins s σ H xs us Q I r h
  obtain ⟨x, rfl, h⟩ := h
  cases r with
  | cons r1 r2 =>
    cases r2 with
    | cons r3 r4 =>
      cases r4
      cases (show _ = Value.type T from r3)
      cases x with
      | int i => exact isinst_ok I r1 (.int i) ok.i fun tk => ⟨.bl _, H, I.tok _, rfl, h⟩
      | bl i => exact isinst_ok I r1 (.bl i) ok.b fun tk => ⟨.bl _, H, I.tok _, rfl, h⟩
      | str i => exact isinst_ok I r1 (.str i) ok.s fun tk => ⟨.bl _, H, I.tok _, rfl, h⟩
      | non => exact isinst_ok I r1 .non ok.n fun tk => ⟨.bl _, H, I.tok _, rfl, h⟩
      | ref a =>
        rcases h with ⟨ys, e1, h⟩ | ⟨ys, e1, h⟩
        · exact isinst_ok I r1 (.tup e1) ok.t fun tk => ⟨.bl _, H, I.tok _, rfl, h⟩
        · exact isinst_ok I r1 (.lst e1) ok.l fun tk => ⟨.bl _, H, I.tok _, rfl, h⟩
      | _ => exact h.elim
def tIsi (z : Isi) (te : TE) : TE := fun σ H Q => te σ H fun x H1 => rIsi z x H1 Q
theorem qisi (ok : IsiOk X.K (.type T) z) (hm : X.mg "isinstance" = none) (hm' : X.mg cls = none) (he : PE X e te) (hv : bootBuiltins cls = some (.type T) := by decide +kernel) (hg : Gl X "isinstance" := by rfl) (hg' : Gl X cls := by rfl)
    (hn : cls ≠ "__name__" := by decide) (hd : (cls == ("__debug__" : Str)) = false := by decide)
    (h1 : starEach (e :: [.Name cls p']) X.env = (false, eval e X.env) :: starEach [.Name cls p'] X.env := by rfl) (h2 : (backTo pos (starEach [.Name cls p'] X.env)).any (·.1) = false := by rfl) (h3 : starEach (Expr.Name cls p' :: []) X.env = (false, eval (.Name cls p') X.env) :: starEach [] X.env := by rfl) :
    PE X (.Call (.Name "isinstance" p) [e, .Name cls p'] [] pos) (tIsi z te) :=
  (pe_callB (cr_isi ok) hg hm (by decide +kernel) (pa_cons he (pa_cons (pe_bltn (v := .ty T) hg' hm' hv rfl hn hd) pa_nil h3) h1) (by decide) (by decide) h1 h2).imp fun σ H Q h => by
    have q : (fun (x : V) (H1 : Hp) => ∃ x', [x, V.ty T] = [x', V.ty T] ∧ rIsi z x' H1 Q) = fun x H1 => rIsi z x H1 Q := by
      funext x H1
      refine propext ⟨fun ⟨x', e, h⟩ => ?_, fun h => ⟨x, rfl, h⟩⟩
      injection e with e1 _
      subst e1
      exact h
    show te σ H fun x H1 => ∃ x', [x, V.ty T] = [x', V.ty T] ∧ rIsi z x' H1 Q
    rw [q]
    exact h
def isiTL : Isi := ⟨false, false, false, false, true, true⟩
theorem cr_isi2 : CallR X (.builtin "isinstance") (fun xs H Q => ∃ x tp, xs = [x, .ref tp] ∧ H tp = some (.tup [.ty "tuple", .ty "list"]) ∧ rIsi isiTL x H Q) := by
  intro pins s σ H xs us Q I r h
  obtain ⟨x, tp, rfl, htp, h⟩ := h
  cases r with
  | cons r1 r2 =>
    cases r2 with
    | cons r3 r4 =>
      cases r4
      cases (show _ = Value.ref tp from r3)
      obtain ⟨_, its, rv, ob, ho, hc, n, hd⟩ := (show ObjOk X.prog X.w H s.heap tp (.tup [.ty "tuple", .ty "list"]) from I.hok tp _ htp)
      cases rv with
      | cons q1 q2 =>
        cases q2 with
        | cons q3 q4 =>
          cases q4
          cases (show _ = Value.type "tuple" from q1)
          cases (show _ = Value.type "list" from q3)
          obtain ⟨oc, od, odt, osl⟩ := ob
          cases (show oc = _ from hc)
          cases (show odt = _ from hd)
          cases x with
          | int i =>
            obtain ⟨t, q⟩ := (show ∃ t, _ = Value.int i t from r1)
            cases q
            exact PySem.W.kia_tup PySem.W.kitx_int I.kIn True.intro ho (b := false) rfl (fun z => nomatch z) fun tk => ⟨.bl _, H, I.tok _, rfl, h⟩
          | bl i =>
            cases (show _ = Value.bool i from r1)
            exact PySem.W.kia_tup PySem.W.kitx_bool I.kIn True.intro ho (b := false) rfl (fun z => nomatch z) fun tk => ⟨.bl _, H, I.tok _, rfl, h⟩
          | str i =>
            obtain ⟨t, q⟩ := (show ∃ t, _ = Value.str i t from r1)
            cases q
            exact PySem.W.kia_tup PySem.W.kitx_str I.kIn True.intro ho (b := false) rfl (fun z => nomatch z) fun tk => ⟨.bl _, H, I.tok _, rfl, h⟩
          | non =>
            cases (show _ = Value.none from r1)
            exact PySem.W.kia_tup PySem.W.kitx_none I.kIn True.intro ho (b := false) rfl (fun z => nomatch z) fun tk => ⟨.bl _, H, I.tok _, rfl, h⟩
          | ref a =>
            cases (show _ = Value.ref a from r1)
            rcases h with ⟨ys, e1, h⟩ | ⟨ys, e1, h⟩
            · obtain ⟨_, _, _, p⟩ := (show ObjOk X.prog X.w H s.heap a (.tup ys) from I.hok a _ e1)
              obtain ⟨o, h1, h2, _⟩ := p
              exact PySem.W.kia_tup PySem.W.kitx_tuple I.kIn ⟨o, h1, h2⟩ ho (b := true) rfl (fun z => nomatch z) fun tk => ⟨.bl _, H, I.tok _, rfl, h⟩
            · obtain ⟨_, _, n, _, h1⟩ := (show ObjOk X.prog X.w H s.heap a (.lst ys) from I.hok a _ e1)
              exact PySem.W.kia_tup PySem.W.kitx_list I.kIn ⟨_, h1, rfl⟩ ho (b := true) rfl (fun z => nomatch z) fun tk => ⟨.bl _, H, I.tok _, rfl, h⟩
          | _ => exact h.elim
end
theorem Same.tup {K : PySem.W.Frag} {H H' : Hp} {a : Addr} {xs : List V} (e : Same H H') (h : SqT K H a xs) : SqT K H' a xs := by
  rcases h with (h | ⟨o, h⟩) | h
  · exact .inl (.inl (e _ _ h))
  · exact .inl (.inr ⟨o, e _ _ h⟩)
  · exact .inr h
def scalD : V → PyData → Prop
  | .non, .none => True
  | .bl b, .bool c => b = c
  | .int i, .int j => i = j
  | .str x, .str y => x = y
  | _, _ => False
def Dq (H : Hp) : Nat → V → PyData → Prop
  | 0, v, d => scalD v d
  | n + 1, v, d => scalD v d ∨ (∃ a xs ds, v = .ref a ∧ d = .tuple ds ∧ H a = some (.tup xs) ∧ xs.length ≤ 100000 ∧ Paired (Dq H n) xs ds) ∨ ∃ a xs ds, v = .ref a ∧ d = .list ds ∧ H a = some (.lst xs) ∧ xs.length ≤ 100000 ∧ Paired (Dq H n) xs ds
theorem Dq.same {H H' : Hp} (s : Same H H') : ∀ {n : Nat} {v : V} {d : PyData}, Dq H n v d → Dq H' n v d
  | 0, _, _, h => h
  | n + 1, v, d, h => by
    rcases h with h | ⟨a, xs, ds, e1, e2, e3, l, r⟩ | ⟨a, xs, ds, e1, e2, e3, l, r⟩
    · exact .inl h
    · exact .inr (.inl ⟨a, xs, ds, e1, e2, s _ _ e3, l, Paired.mapP r fun _ _ => Dq.same s⟩)
    · exact .inr (.inr ⟨a, xs, ds, e1, e2, s _ _ e3, l, Paired.mapP r fun _ _ => Dq.same s⟩)
theorem Paired.get2 {α β : Type} {R : α → β → Prop} : ∀ {xs : List α} {ys : List β} {i : Nat}, Paired R xs ys → i < xs.length → ∃ x y, xs[i]? = some x ∧ ys[i]? = some y ∧ R x y
  | _, _, _, .nil, h => absurd h (Nat.not_lt_zero _)
  | _, _, 0, .cons r _, _ => ⟨_, _, rfl, rfl, r⟩
  | _, _, i + 1, .cons _ t, h => by
    obtain ⟨x, y, h1, h2, h3⟩ := Paired.get2 (i := i) t (Nat.lt_of_succ_lt_succ h)
    exact ⟨x, y, h1, h2, h3⟩
end L2
set_option Elab.async false
set_option linter.all false
set_option maxRecDepth 100000
set_option maxHeartbeats 4000000
namespace L2
open PySem PySem.Spec PyProof.Rows
section
variable {prog : Program} {w : World}
theorem meets_update_pairs (d l : Addr) : MeetsIn prog w (Builtin.«dict.update» ⟨[.ref d, .ref l], []⟩) (fun A R s => A.handled = none ∧ ∃ (acc : List (Key × Value)) (ol : Obj) (items : Array Value) (n : Nat) (prs : List (Key × Value)),
    s.heap.DictOf (mixKind prog w) d acc ∧ s.heap.get? l = some ol ∧ ol.cls = .type "list" ∧ ol.dict = none ∧ ol.data = .seq items n ∧ items.size = prs.length ∧ acc.length + prs.length ≤ sizeLine ∧
    (∀ (j : Nat) (q : Key × Value), prs[j]? = some q → ∃ (b : Addr) (u : Value), items[j]? = some (.ref b) ∧ IsTup s.heap b #[u, q.2] ∧ keyIs q.1 u = true) ∧
    ∀ h' tk, h'.DictOf (mixKind prog w) d (merged acc prs) → (∀ b o, b ≠ d → s.heap.get? b = some o → h'.get? b = some o) → R (.ok (.ret .none)) { s with heap := h', toks := tk }) := by
  intro A R s ⟨hh, acc, ol, items, n, prs, hD, hl, hc, hd, hdat, hsz, hln, ht, h⟩
  have hdl : d ≠ l := by
    rintro rfl
    obtain ⟨o, es, ep, e1, e2, e3, _⟩ := hD
    rw [hl] at e1
    cases e1
    rw [hdat] at e3
    cases e3
  have htd : ∀ b (x : Array Value), IsTup s.heap b x → b ≠ d := by
    rintro b x ⟨o, e1, e2, m, e3⟩ rfl
    obtain ⟨o', es, ep, e1', e2', e3', _⟩ := hD
    rw [e1] at e1'
    cases e1'
    rw [e3] at e3'
    cases e3'
  unfold Builtin.«dict.update»
  refine wpAny_bind ?_
  unfold Builtin.Dict.selfAndRest
  refine wpAny_bind (wpAny_notOrdered_dict hD.typeIs ?_)
  show wpAny _ _ (pure (d, [Value.ref l])) _ _ s
  refine wpAny_pure ?_
  show wpAny _ _ (Builtin.Dict.updateFrom "dict.update" d (.ref l) [] .none) _ _ s
  unfold Builtin.Dict.updateFrom
  refine wpAny_bind (wpAny_typeOf (T := "list") ⟨ol, hl, hc⟩ ?_)
  rw [if_pos (by first | decide | rfl | simp)]
  refine wpAny_bind (miss_list hl hc hdat hd hh fun h1 tk1 hk1 => ?_)
  rw [if_pos (show (none : Option Value).isNone = true from rfl)]
  refine wpAny_bind (wpAny_rule ?_)
  have hl1 : h1.IsList l items := ⟨ol, hk1 _ _ hl, hc, n, hdat⟩
  refine wpAny_bind (wpAny_pyIter_list hl1 ?_)
  have k2 : ∀ b o, h1.get? b = some o → (h1.push { cls := .type "list_iterator", data := .fields #[.ref l, .int 0 0] }).get? b = some o := fun b o e => Heap.get?_push_of_some _ e
  have hd1 : h1.DictOf (mixKind prog w) d acc := hD.at fun o e => hk1 _ _ e
  have hdlt : d < h1.objs.size := by
    obtain ⟨o, es, ep, e1, _⟩ := hd1
    exact Heap.lt_size e1
  have hllt : l < h1.objs.size := Heap.lt_size (hk1 _ _ hl)
  have key := upd_loop (prog := prog) (w := w) (A := A) (R := R) (S := d) (I := h1.objs.size) (l := l) (items := items) (res := Value.none) hh
    (Nat.ne_of_lt hllt) (Nat.ne_of_lt hdlt) hdl prs 0 acc 0 0
    { s with heap := h1.push { cls := .type "list_iterator", data := .fields #[.ref l, .int 0 0] }, toks := tk1 } (by rw [hsz, Nat.zero_add]) hln
    (fun j q e => by
      obtain ⟨b, u, e1, e2, e3⟩ := ht j q e
      have e2' : IsTup h1 b #[u, q.2] := e2.keeps fun c o z => hk1 _ _ z
      exact ⟨b, u, by rw [Nat.zero_add]; exact e1, htd _ _ e2, Nat.ne_of_lt e2'.lt, e2'.keeps fun c o z => k2 _ _ z, e3⟩)
    ⟨_, Heap.get?_push_size _ rfl, rfl, rfl⟩ (hl1.at fun o e => k2 _ _ e) (hd1.at fun o e => k2 _ _ e)
    (fun h' tk hd' k => h h' tk hd' fun b o nb e => k b o nb (Nat.ne_of_lt (Heap.lt_size (hk1 _ _ e))) (k2 _ _ (hk1 _ _ e)))
  first
    | exact wpAny_pure ⟨plainId_quiet ud_plain _, key⟩
    | exact wpAny_bind (wpAny_pure (wpAny_pure ⟨plainId_quiet ud_plain _, key⟩))
end
section
variable {X : Cx}
theorem mt_update (hcalm : X.calm = true) : MtR X "dict.update" (fun x xs H Q => ∃ (d a : Addr) (ps : List Addr) (acc kvs : List (Key × V)), x = .ref d ∧ xs = [.ref a] ∧ H d = some (.dK acc) ∧ SqL X.K H a (ps.map V.ref) ∧
    Paired (fun p kv => SqT X.K H p [kV kv.1, kv.2]) ps kvs ∧ acc.length + kvs.length ≤ sizeLine ∧ Q .non (upd H d (.dK (mergeK acc kvs)))) := by
  intro pins s σ H x xs v us Q I rx rs q
  obtain ⟨d, a, ps, acc, kvs, ex, exs, hd, hq, hp, hsz, q⟩ := q
  subst ex exs
  cases rx
  obtain ⟨u, eu, ru⟩ := vals1 rs
  subst eu
  cases ru
  obtain ⟨its, rv, pl, hz⟩ := I.list hq
  have ei := refs_at rv
  subst ei
  rw [List.length_map] at hz
  obtain ⟨prs, rel, hl, hpr⟩ := pairs_of I hp
  obtain ⟨o, n, ho, hc, hdn, hdat⟩ := pl
  obtain ⟨z, hsys, vs, relD, dd⟩ := dk_of I.hok hd
  have hlen : kvs.length = prs.length := rel.length
  refine call_meetsIn PySem.F.slot_dict_update dd.typeIs PySem.F.entry_dict_update (PySem.F.args_dict_update_2 _ _) (meets_update_pairs d a)
    ⟨I.ok.hd hcalm, vs, o, _, n, prs, dd, ho, hc, hdn, hdat, by simp [hl], by rw [← relD.length, ← hlen]; exact hsz, fun j q' e => ?_, fun h' tk dd' hs => ?_⟩
  · obtain ⟨b, u, e1, e2, e3⟩ := hpr j q' e
    exact ⟨b, u, by simp [e1], e2, e3⟩
  · have he : ∃ q, h'.get? d = some q := let ⟨q, _, _, hq, _⟩ := dd'; ⟨q, hq⟩
    have hlm : (mergeK acc kvs).length ≤ sizeLine := Nat.le_trans (length_mergeK kvs acc) hsz
    refine ⟨.non, upd H d (.dK (mergeK acc kvs)), ?_, rfl, q⟩
    exact I.write (x := d) (e := d) (by rw [hd]; exact True.intro) (.inl rfl) (fun b u hb q => hs b u hb q) he (dk_new hlm hsys (KV.merge rel relD) dd')
end
end L2
set_option Elab.async false
set_option linter.all false
set_option maxRecDepth 100000
set_option maxHeartbeats 4000000
namespace Tm
open PySem L2
inductive Wd where
  | num (n : Int)
  | key (b e a : Int) (r : Str)
  | gate (row : Int) (w : Wd)
def Tups (H H' : Hp) : Prop := ∀ p xs, H p = some (.tup xs) → H' p = some (.tup xs)
theorem Tups.refl (H : Hp) : Tups H H := fun _ _ h => h
theorem Tups.trans {H H1 H2 : Hp} (a : Tups H H1) (b : Tups H1 H2) : Tups H H2 := fun p xs h => b p xs (a p xs h)
theorem Same.tups {H H' : Hp} (a : Same H H') : Tups H H' := fun p xs h => a _ _ h
theorem On.tups {K : PySem.W.Frag} {R : Addr} {H H' : Hp} (h : RowAt K H R) (o : On K R H H') : Tups H H' := fun p xs e => o.at e (by
  obtain ⟨ys, q⟩ := h.lst
  rintro rfl
  rw [q] at e
  cases e)
theorem Tups.upd {H : Hp} {p : Addr} {o : HO} (h : Soft (H p)) : Tups H (upd H p o) := fun q xs e => by
  rw [upd_ne]
  · exact e
  · rintro rfl
    rw [e] at h
    exact h
def IsW (H : Hp) : Wd → V → Prop
  | .num n, v => v = .int n
  | .key b e a r, v => ∃ p, v = .ref p ∧ H p = some (.tup [.str "key", .int b, .int e, .int a, .str r])
  | .gate row w, v => ∃ p u, v = .ref p ∧ H p = some (.tup [.str "gate", .int row, u]) ∧ IsW H w u
theorem IsW.tups {H H' : Hp} (t : Tups H H') : ∀ {w : Wd} {v : V}, IsW H w v → IsW H' w v
  | .num _, _, h => h
  | .key _ _ _ _, _, ⟨p, e, h⟩ => ⟨p, e, t _ _ h⟩
  | .gate _ w, _, ⟨p, u, e, h, i⟩ => ⟨p, u, e, t _ _ h, i.tups t⟩
def numOk (n : Int) : Prop := -10000 ≤ n ∧ n ≤ 9999
def RightsOk (r : Str) : Prop := r.cps.toList.Sublist [103, 104, 108, 115]
def Wd.plain : Wd → Prop
  | .gate _ _ => False
  | _ => True
def WOk (rows most : Int) : Wd → Prop
  | .num n => numOk n
  | .key b e a r => 0 ≤ b ∧ b < e ∧ e ≤ most ∧ numOk a ∧ RightsOk r
  | .gate row w => 0 ≤ row ∧ row ≤ rows ∧ w.plain ∧ WOk rows most w
theorem join_signs : ∀ (cs : List Nat), (Txt.join (Str.ofString "") (cs.map fun c => (⟨#[c]⟩ : Str))).cps.toList = cs := by
  intro cs
  rw [TL.join_eq]
  have q := TL.tl_join (Str.ofString "") (cs.map fun c => (⟨#[c]⟩ : Str))
  have e : TL.tl (Str.ofString "") = [] := by decide +kernel
  rw [e] at q
  show TL.tl _ = cs
  rw [q]
  rw [List.map_map]
  have f : (TL.tl ∘ fun c => (⟨#[c]⟩ : Str)) = fun c : Nat => [c] := by
    funext c
    rfl
  rw [f]
  clear q e f
  induction cs with
  | nil => rfl
  | cons c cs ih =>
    cases cs with
    | nil => rfl
    | cons d ds =>
      show [c] ++ ([] ++ TL.joinL [] ((d :: ds).map fun c => [c])) = _
      rw [ih]
      rfl
end Tm
set_option Elab.async false
set_option linter.all false
set_option maxRecDepth 100000
set_option maxHeartbeats 4000000
namespace Tm
open PySem L2
theorem iteF' {A B : Prop} {c : Bool} (e : c = false) (h : B) : if c = true then A else B := by
  subst e
  exact iteF h
theorem iteT' {A B : Prop} {c : Bool} (e : c = true) (h : A) : if c = true then A else B := by
  subst e
  exact iteT h
inductive Rw where
  | put (r n : Int)
  | move (r s : Int)
  | add (r s t : Int)
  | take (r s t : Int)
  | less (r s t : Int)
  | same (r s t : Int)
  | is_ (r s : Int)
  | get (r s far : Int)
  | set (s far t : Int)
  | narrow (r s t : Int)
  | fewer (r s : Int) (x : Str)
  | gate (r s row : Int)
  | enter (s : Int)
  | room (r : Int)
  | shut (s : Int)
  | say (s : Int)
  | go (row : Int)
  | if_ (s row : Int)
  | end_
def Rw.vals : Rw → List V
  | .put r n => [.str "put", .int r, .int n]
  | .move r s => [.str "move", .int r, .int s]
  | .add r s t => [.str "add", .int r, .int s, .int t]
  | .take r s t => [.str "take", .int r, .int s, .int t]
  | .less r s t => [.str "less", .int r, .int s, .int t]
  | .same r s t => [.str "same", .int r, .int s, .int t]
  | .is_ r s => [.str "is", .int r, .int s]
  | .get r s far => [.str "get", .int r, .int s, .int far]
  | .set s far t => [.str "set", .int s, .int far, .int t]
  | .narrow r s t => [.str "narrow", .int r, .int s, .int t]
  | .fewer r s x => [.str "fewer", .int r, .int s, .str x]
  | .gate r s row => [.str "gate", .int r, .int s, .int row]
  | .enter s => [.str "enter", .int s]
  | .room r => [.str "room", .int r]
  | .shut s => [.str "shut", .int s]
  | .say s => [.str "say", .int s]
  | .go row => [.str "go", .int row]
  | .if_ s row => [.str "if", .int s, .int row]
  | .end_ => [.str "end"]
def box (r : Int) : Prop := 0 ≤ r ∧ r ≤ 7
def ROk (rows : Int) : Rw → Prop
  | .put r n => box r ∧ numOk n
  | .move r s => box r ∧ box s
  | .add r s t => box r ∧ box s ∧ box t
  | .take r s t => box r ∧ box s ∧ box t
  | .less r s t => box r ∧ box s ∧ box t
  | .same r s t => box r ∧ box s ∧ box t
  | .is_ r s => box r ∧ box s
  | .get r s far => box r ∧ box s ∧ -63 ≤ far ∧ far ≤ 63
  | .set s far t => box s ∧ (-63 ≤ far ∧ far ≤ 63) ∧ box t
  | .narrow r s t => box r ∧ box s ∧ box t
  | .fewer r s x => box r ∧ box s ∧ RightsOk x
  | .gate r s row => box r ∧ box s ∧ 0 ≤ row ∧ row ≤ rows
  | .enter s => box s
  | .room r => box r
  | .shut s => box s
  | .say s => box s
  | .go row => 0 ≤ row ∧ row < rows
  | .if_ s row => box s ∧ 0 ≤ row ∧ row < rows
  | .end_ => True
def IsR (H : Hp) (x : Rw) (v : V) : Prop := ∃ p, v = .ref p ∧ H p = some (.tup x.vals)
theorem IsR.tups {H H' : Hp} {x : Rw} {v : V} (h : IsR H x v) (t : Tups H H') : IsR H' x v := by
  obtain ⟨p, e, h⟩ := h
  exact ⟨p, e, t _ _ h⟩
def tab8 (a1 a2 a3 a4 a5 a6 a7 a8 : V) : List (Key × V) := [(.inr "put", a1), (.inr "fewer", a2), (.inr "go", a3), (.inr "if", a4), (.inr "end", a5), (.inr "gate", a6), (.inr "move", a7), (.inr "is", a8)]
theorem tab5_eq (a1 a2 a3 a4 a5 : V) : mergeK [] [(.inr "put", a1), (.inr "fewer", a2), (.inr "go", a3), (.inr "if", a4), (.inr "end", a5)] = [(.inr "put", a1), (.inr "fewer", a2), (.inr "go", a3), (.inr "if", a4), (.inr "end", a5)] := by rfl
theorem tab8_eq (a1 a2 a3 a4 a5 a6 a7 a8 : V) : mergeK [(.inr "put", a1), (.inr "fewer", a2), (.inr "go", a3), (.inr "if", a4), (.inr "end", a5)] [(.inr "gate", a6), (.inr "move", a7), (.inr "is", a8)] = tab8 a1 a2 a3 a4 a5 a6 a7 a8 := by rfl
end Tm
set_option Elab.async false
set_option linter.all false
set_option maxRecDepth 100000
set_option maxHeartbeats 1000000
namespace Tm
open PySem L2
def Wd.kind : Wd → Int
  | .num _ => 0
  | .key _ _ _ _ => 1
  | .gate _ _ => 2
def hasR (r : Str) (c : Nat) : Bool := decide (c ∈ r.cps.toList)
def fewerR (r x : Str) : Str := ⟨(r.cps.toList.filter fun c => decide (c ∈ x.cps.toList)).toArray⟩
theorem str_ext {x y : Str} (h : x.cps.toList = y.cps.toList) : x = y := by
  cases x
  cases y
  congr 1
  exact Array.toList_inj.mp h
end Tm
set_option Elab.async false
set_option linter.all false
set_option maxRecDepth 100000
set_option maxHeartbeats 1000000
namespace L2
open PySem PySem.Spec PyProof.Rows
inductive Ents (w : World) : List DictEntry → List (Key × V) → Prop
  | nil : Ents w [] []
  | cons {x : Str} {t : Tok} {u : Value} {v : V} {es : List DictEntry} {kvs : List (Key × V)} : RelV v u → Ents w es kvs → Ents w (⟨PyData.keyHash w.params x, .str x t, u⟩ :: es) ((.inr x, v) :: kvs)
structure KDict (w : World) (K : PySem.W.Frag) (a : Addr) (kvs : List (Key × V)) : Prop where
  ex : ∃ o es ep, K.lookup a = some o ∧ o.ExactDict ∧ o.data = .dict es ep ∧ Ents w es.toList kvs
  nd : (kvs.map (·.1)).Nodup
  ns : (a == sysModules) = false
theorem Ents.pairs {P : Program} {w : World} : ∀ {es : List DictEntry} {kvs : List (Key × V)}, Ents w es kvs → ∃ vs, KV kvs vs ∧ Pairs (mixKind P w) es vs ∧ (∀ e ∈ es, ∃ k, (mixKind P w).is k e.key = true ∧ e.hash = (mixKind P w).hash k) ∧ vs.map (·.1) = kvs.map (·.1)
  | _, _, .nil => ⟨[], .nil, .nil, fun e he => absurd he (by simp), rfl⟩
  | _, _, .cons (x := x) (t := t) (u := u) r q => by
    obtain ⟨vs, h1, h2, h3, h4⟩ := Ents.pairs (P := P) q
    refine ⟨(.inr x, u) :: vs, .cons ⟨rfl, r⟩ h1, .cons (keyIs_str x t) rfl h2, fun e he => ?_, ?_⟩
    · rcases List.mem_cons.mp he with z | z
      · subst z
        exact ⟨.inr x, keyIs_str x t, rfl⟩
      · exact h3 e z
    · rw [List.map_cons, List.map_cons, h4]
theorem KDict.dict {P : Program} {w : World} {K : PySem.W.Frag} {a : Addr} {kvs : List (Key × V)} (d : KDict w K a kvs) {h : Heap} (k : K.In h) : ∃ vs, KV kvs vs ∧ h.DictOf (mixKind P w) a vs := by
  obtain ⟨o, es, ep, h1, h2, h3, h4⟩ := d.ex
  obtain ⟨vs, r, p, q, e⟩ := h4.pairs (P := P)
  refine ⟨vs, r, o, es, ep, k a o h1, h2, h3, fun e he => q e (by simpa using he), p, ?_⟩
  rw [e]
  exact d.nd
section
variable {X : Cx} {x : Str} {a : Addr} {kvs : List (Key × V)} {i e f : Expr} {ti te tf : TE} {p pos apos : Pos}
def atT (kvs : List (Key × V)) (y : V) (Q : V → Prop) : Prop := match y with
  | .str z => (match valV kvs (.inr z) with | some v => Q v | none => False)
  | _ => False
def hasT (kvs : List (Key × V)) (y : V) (Q : Bool → Prop) : Prop := match y with
  | .str z => Q (valV kvs (.inr z)).isSome
  | _ => False
theorem pk_get (D : KDict X.w X.K a kvs) (hm : X.mg x = some (.ref a)) (hi : PE X i ti) (hs : NoSl i := by intro _ _; rfl) (hg : Gl X x := by rfl) (hd : (x == ("__debug__" : Str)) = false := by decide) :
    PE X (.Subscript (.Name x p) i pos) (fun σ H Q => ti σ H fun y H1 => atT kvs y fun v => Q v H1) := by
  intro pins s σ H Q I h
  refine subD_of PySem.F.slot_dict_getitem.lookup hs (ld_glob I hg hm (thn (hi pins s σ H _ I h) fun iv s2 ⟨y, H2, I2, ry, q⟩ => ?_) hd)
  cases y with
  | str z =>
    obtain ⟨t, rfl⟩ := ry
    obtain ⟨vs, r, dd⟩ := D.dict (P := X.prog) I2.kIn
    have q' : (match valV kvs (.inr z) with | some v => Q v H2 | none => False) := q
    cases ev : valV kvs (.inr z) with
    | none =>
      rw [ev] at q'
      exact q'.elim
    | some v =>
      rw [ev] at q'
      obtain ⟨w', hw, rw'⟩ := RelO.some_of (v := v) (o := valueAt vs (.inr z)) (by rw [← ev]; exact r.val (.inr z))
      exact ⟨dd.typeIs, wpAny_getItem_of (keyIs_str z t) dd.mapOf hw ⟨v, H2, I2.tok _, rw', q'⟩⟩
  | _ => exact (show False from q).elim
theorem pk_notin (D : KDict X.w X.K a kvs) (hm : X.mg x = some (.ref a)) (hi : PE X i ti) (hg : Gl X x := by rfl) (hd : (x == ("__debug__" : Str)) = false := by decide) :
    PC X .NotIn i (.Name x p) (fun σ H Q => ti σ H fun y H1 => hasT kvs y fun b => Q (.bl (!b)) H1) := by
  intro pins s σ H Q I h
  refine thn (hi pins s σ H _ I h) fun iv s2 ⟨y, H2, I2, ry, q⟩ => ld_glob I2 hg hm ?_ hd
  cases y with
  | str z =>
    obtain ⟨t, rfl⟩ := ry
    obtain ⟨vs, r, dd⟩ := D.dict (P := X.prog) I2.kIn
    refine wpAny_notIn_of (mixKind_str X.prog X.w z t) D.ns dd.mapOf ?_
    rw [← (r.val (.inr z)).isSome_eq]
    exact ⟨.bl _, H2, I2.tok _, rfl, q⟩
  | _ => exact (show False from q).elim
end
end L2
set_option Elab.async false
set_option linter.all false
set_option maxRecDepth 100000
set_option maxHeartbeats 1000000
namespace L2
open PySem PySem.Spec PyProof.Rows
section
variable {X : Cx}
end
section
variable {X : Cx} {a b c d : Expr} {ta tb tc td : TE} {pos : Pos}
end
theorem pe_globI {X : Cx} {x : Str} {i : Int} {pos : Pos} (h : ∃ t, X.mg x = some (.int i t)) (hg : Gl X x := by rfl) (hd : (x == ("__debug__" : Str)) = false := by decide) : PE X (.Name x pos) (tC (.int i)) := by
  obtain ⟨t, h⟩ := h
  exact pe_glob hg h ⟨t, rfl⟩ hd
theorem pe_globS {X : Cx} {x y : Str} {pos : Pos} (h : ∃ t, X.mg x = some (.str y t)) (hg : Gl X x := by rfl) (hd : (x == ("__debug__" : Str)) = false := by decide) : PE X (.Name x pos) (tC (.str y)) := by
  obtain ⟨t, h⟩ := h
  exact pe_glob hg h ⟨t, rfl⟩ hd
structure FunD (K : PySem.W.Frag) (x qual : Str) (st : Stmt) (f : Addr) (fd : FuncData) : Prop where
  ex : ∃ (dV oc : Value) (od : Option Addr) (kV doc pm : Value) (an : Option Addr) (cdv ct : Value) (osl : Array (Option Value)),
    fd = PySem.W.fnOf x qual (defArgs st) (defBody st) (defScope st) dV kV doc pm an cdv ct ∧ K.lookup f = some ⟨oc, od, .func fd, osl⟩ ∧ PySem.W.codeIn K cdv qual = true
  kp : PySem.W.keepIn K (.ref f) = true
theorem FunD.ok {P : Program} {w : World} {K : PySem.W.Frag} {mg : Str → Option Value} {base : Heap} {x qual : Str} {st : Stmt} {f : Addr} {fd : FuncData} {N ps : List Str} {k : Nat} {sp : Sp} (F : FunD K x qual st f fd) (S : FnScope N ps (defScope st)) (len : ∀ vs H Q E, sp vs H Q E → vs.length = ps.length)
    (hbody : ∀ (cdv : Value) (A : Around) (outer : List Env) (s : Shared) (H : Hp) (vs : List V) (Q : VK) (E : XK), Room k (A.deeper (envOfC qual (defScope st) s.heap.objs.size f cdv)) → sp vs H Q E →
      ∃ t, PSs (cxOf CX0 P w K mg base N qual (defScope st) f cdv A outer s H E).nox (defBody st) t ∧ t { nx := fun _ H' => Q .non H', rt := Q } (start N vs) H) : FnOk P w K mg base CX0 (k + 1) f fd ps sp := by
  obtain ⟨dV, oc, od, kV, doc, pm, an, cdv, ct, osl, rfl, lk, hcd⟩ := F.ex
  refine fn_of lk hcd S len fun A outer s H vs Q E hr hsp => ?_
  obtain ⟨t, h, q⟩ := hbody cdv A outer s H vs Q E hr hsp
  exact ⟨t, h.nox, q⟩
end L2
set_option Elab.async false
set_option linter.all false
set_option maxRecDepth 100000
set_option maxHeartbeats 1000000
set_option pp.maxSteps 600
set_option pp.deepTerms false
namespace Tm
open PySem L2
structure Gw (mg : Str → Option Value) : Prop where
  LEAST : ∃ t, mg "LEAST" = some (.int (-10000) t)
  MOST : ∃ t, mg "MOST" = some (.int 9999 t)
  RIGHTS : ∃ t, mg "RIGHTS" = some (.str "ghls" t)
def Typed (H : Hp) : V → Prop
  | .int _ => True
  | .bl _ => True
  | .str _ => True
  | .non => True
  | .ref a => (∃ xs, H a = some (.tup xs)) ∨ ∃ xs, H a = some (.lst xs)
  | _ => False
def wholeB (v : V) (l m : Int) : Bool := match v with
  | .int i => decide (l ≤ i) && decide (i ≤ m)
  | _ => false
def spWhole : Sp := fun vs H Q _ => ∃ (v : V) (l m : Int), vs = [v, .int l, .int m] ∧ Typed H v ∧ Q (.bl (wholeB v l m)) H
def spNumber : Sp := fun vs H Q _ => ∃ (v : V), vs = [v] ∧ Typed H v ∧ Q (.bl (wholeB v (-10000) 9999)) H
def spCommon : Sp := fun vs H Q _ => ∃ (r x : Str), vs = [.str r, .str x] ∧ r.length ≤ 1000 ∧ ∀ H', Same H H' → Q (.str (fewerR r x)) H'
def rightsB : V → Bool
  | .str z => decide (z = fewerR "ghls" z)
  | _ => false
def spIsRights : Sp := fun vs H Q _ => ∃ (v : V), vs = [v] ∧ Typed H v ∧ ∀ H', Same H H' → Q (.bl (rightsB v)) H'
abbrev s_is_whole : Stmt := top 13
abbrev N_is_whole : List Str := ["value", "least", "most"]
abbrev P_is_whole : List Str := ["value", "least", "most"]
theorem sc_is_whole : FnScope N_is_whole P_is_whole (defScope s_is_whole) := ⟨rfl, rfl, rfl, by decide +kernel, rfl, by decide +kernel, by decide +kernel⟩
abbrev s_is_number : Stmt := top 14
abbrev N_is_number : List Str := ["value"]
abbrev P_is_number : List Str := ["value"]
theorem sc_is_number : FnScope N_is_number P_is_number (defScope s_is_number) := ⟨rfl, rfl, rfl, by decide +kernel, rfl, by decide +kernel, by decide +kernel⟩
abbrev s_common_rights : Stmt := top 15
abbrev N_common_rights : List Str := ["rights", "others", "letter"]
abbrev P_common_rights : List Str := ["rights", "others"]
theorem sc_common_rights : FnScope N_common_rights P_common_rights (defScope s_common_rights) := ⟨rfl, rfl, rfl, by decide +kernel, rfl, by decide +kernel, by decide +kernel⟩
abbrev s_is_rights : Stmt := top 16
abbrev N_is_rights : List Str := ["value"]
abbrev P_is_rights : List Str := ["value"]
theorem sc_is_rights : FnScope N_is_rights P_is_rights (defScope s_is_rights) := ⟨rfl, rfl, rfl, by decide +kernel, rfl, by decide +kernel, by decide +kernel⟩
theorem IsW.typed {H : Hp} {x : Wd} {v : V} (h : IsW H x v) : Typed H v := by
  cases x with
  | num n => cases (show v = V.int n from h); trivial
  | key b e a r => obtain ⟨p, rfl, hp⟩ := h; exact .inl ⟨_, hp⟩
  | gate g y => obtain ⟨p, u, rfl, hp, _⟩ := h; exact .inl ⟨_, hp⟩
theorem fewer_self {r : Str} (h : RightsOk r) : fewerR "ghls" r = r := by
  apply str_ext
  have e : (Str.ofString "ghls").cps.toList = [103, 104, 108, 115] := by decide +kernel
  show List.filter (fun c => decide (c ∈ r.cps.toList)) (Str.ofString "ghls").cps.toList = r.cps.toList
  rw [e]
  unfold RightsOk at h
  generalize r.cps.toList = l at h
  have key : ∀ (m : List Nat), m.Nodup → ∀ l : List Nat, l.Sublist m → m.filter (fun c => decide (c ∈ l)) = l := by
    intro m hm l hl
    induction hl with
    | slnil => rfl
    | cons a hs ih =>
      rename_i l1 l2
      have ha := (List.nodup_cons.mp hm).1
      rw [List.filter_cons, if_neg (by simpa using fun z => ha (hs.subset z))]
      exact ih (List.nodup_cons.mp hm).2
    | cons_cons a hs ih =>
      rename_i l1 l2
      have ha := (List.nodup_cons.mp hm).1
      rw [List.filter_cons, if_pos (by simp)]
      congr 1
      rw [← ih (List.nodup_cons.mp hm).2]
      refine List.filter_congr fun c hc => ?_
      have hne : c ≠ a := fun z => ha (z ▸ hc)
      have hiff : (c ∈ a :: l1.filter fun c => true) ↔ c ∈ l1 := by simp [hne]
      rw [ih (List.nodup_cons.mp hm).2]
      simp [hne]
  exact key _ (by decide) l h
section
variable {P : Program} {w : World} {K : PySem.W.Frag} {mg : Str → Option Value} {base : Heap}
theorem ok_is_whole {f : Addr} {fd : FuncData} (F : Fun K "is_whole" "is_whole" s_is_whole f fd) (T : Tx mg) : FnOk P w K mg base CX0 1 f fd P_is_whole spWhole := by
  have sc := sc_is_whole
  refine F.ok sc (fun vs H Q E h => ?_) (fun cdv A outer s H vs Q E hr h => ?_)
  · obtain ⟨v, l, m, rfl, _⟩ := h
    rfl
  obtain ⟨v, l, m, rfl, hv, k⟩ := h
  refine ⟨_, ((pss_cons (ps_if (PW.pt (pw_or (pt_not (pt_val (qisi (isi_int _) T.isinstance T.int (qv 0)))) (pw_or1 (pt_val (qisi (isi_bool _) T.isinstance T.bool (qv 0))))))
  (pss_one (ps_ret pe_bl))
  pss_nil)
  (pss_one (ps_ret (pe_chain oq_le oq_le (qv 1) (qv 0) (qv 2))))) : PSs _ (_ :: _) _), ?_⟩
  cases v with
  | int i =>
    refine ⟨_, rfl, _, rfl, _, rfl, ?_⟩
    refine ite2 (fun c => ?_) (fun c => ?_)
    · have e : wholeB (.int i) l m = decide (i ≤ m) := by
        show (decide (l ≤ i) && decide (i ≤ m)) = _
        rw [c, Bool.true_and]
      rw [e] at k
      exact k
    · have e : wholeB (.int i) l m = false := by
        show (decide (l ≤ i) && decide (i ≤ m)) = _
        rw [Bool.eq_false_iff.mpr c, Bool.false_and]
      rw [e] at k
      exact k
  | bl b => exact ⟨_, rfl, _, rfl, k⟩
  | str z => exact ⟨_, rfl, k⟩
  | non => exact ⟨_, rfl, k⟩
  | ref a =>
    rcases hv with ⟨xs, hv⟩ | ⟨xs, hv⟩
    · exact .inl ⟨_, hv, _, rfl, k⟩
    · exact .inr ⟨_, hv, _, rfl, k⟩
  | _ => exact hv.elim
theorem ok_is_number {f : Addr} {fd : FuncData} (F : Fun K "is_number" "is_number" s_is_number f fd) (G : Gw mg) (D_is_whole : Df P w K mg base 1 "is_whole" P_is_whole [] spWhole) : FnOk P w K mg base CX0 2 f fd P_is_number spNumber := by
  have sc := sc_is_number
  refine F.ok sc (fun vs H Q E h => ?_) (fun cdv A outer s H vs Q E hr h => ?_)
  · obtain ⟨v, rfl, _⟩ := h
    rfl
  obtain ⟨v, rfl, hv, k⟩ := h
  refine ⟨_, ((pss_one (ps_ret (qcall D_is_whole (by first | exact hr | exact hr.mono (by omega)) (pa_cons (qv 0) (pa_cons (pe_globI G.LEAST) (pa_cons (pe_globI G.MOST) pa_nil)))))) : PSs _ [_] _), ?_⟩
  exact ⟨v, -10000, 9999, rfl, hv, k⟩
theorem ok_common {f : Addr} {fd : FuncData} (F : Fun K "common_rights" "common_rights" s_common_rights f fd) : FnOk P w K mg base CX0 1 f fd P_common_rights spCommon := by
  have sc := sc_common_rights
  refine F.ok sc (fun vs H Q E h => ?_) (fun cdv A outer s H vs Q E hr h => ?_)
  · obtain ⟨r, x, rfl, _⟩ := h
    rfl
  obtain ⟨y, z, rfl, ly, k⟩ := h
  have ly' : y.cps.size ≤ 1000 := ly
  refine ⟨_, ((pss_one (ps_ret (pe_join pe_str (pe_lc (own := [("letter", 2)]) (g := gName 2) (by rfl) sc.nd (pi_str (qv 0)) (blkOk_by (own := [("letter", 2)]) (N := N_common_rights) (sc := defScope s_common_rights) (by decide +kernel)) (fun _ _ _ _ _ => (pg_name (i := 2) sc.nd rfl (by first | exact Or.inl rfl | exact Or.inr rfl))) (fun _ _ _ _ _ => (pts_one (pt_cmpR op_in_sign (qv 2) (qv 1) (by rfl)))) (fun _ _ _ _ _ => (qv 2)))))) : PSs _ [_] _), ?_⟩
  refine ⟨⟨_, rfl⟩, _, rfl, fun D hD => ?_⟩
  refine lc_by (n := y.cps.size) (fun i H2 => Same H H2 ∧ H2 D = some (.lst (((y.cps.toList.take i).filter fun c => decide (c ∈ z.cps.toList)).map fun c => V.str ⟨#[c]⟩))) ⟨same_new hD _, upd_same⟩ (fun i H2 hi _ => hi) (fun H2 _ => Nat.le_refl _) ?_ ?_
  · rintro i H2 x H2' hi ⟨o2, hc⟩ ⟨rfl, c, hx, rfl⟩
    refine ⟨rfl, ?_⟩
    refine ⟨c, z, rfl, rfl, _, rfl, ?_⟩
    have hx' : y.cps.toList[i]? = some c := by simpa using hx
    have ht : y.cps.toList.take (i + 1) = y.cps.toList.take i ++ [c] := by
      rw [List.take_succ, hx']
      rfl
    have hl : ((y.cps.toList.take i).filter fun c => decide (c ∈ z.cps.toList)).length ≤ 1000 := by
      refine Nat.le_trans (List.length_filter_le _ _) (Nat.le_trans (List.length_take_le' _ _) ?_)
      rw [Array.length_toList]
      exact ly'
    refine ite2 (fun q => ?_) (fun q => ?_)
    · refine ⟨_, hc, small1000 (by rw [List.length_map]; omega), fun b' o' e' => ?_, ?_⟩
      · rw [upd_ne (ne_of_none e' hD)]
        exact o2 _ _ e'
      · rw [upd_same, ht, List.filter_append, List.map_append]
        congr 3
        show _ = (List.filter _ [c]).map _
        rw [List.filter_cons, if_pos q]
        rfl
    · refine ⟨o2, ?_⟩
      rw [hc, ht, List.filter_append]
      congr 3
      rw [List.filter_cons, if_neg q]
      simp
  · rintro H2 ⟨o2, hc⟩
    have hall : y.cps.toList.take y.cps.size = y.cps.toList := by rw [← Array.length_toList, List.take_length]
    rw [hall] at hc
    have hl : (y.cps.toList.filter fun c => decide (c ∈ z.cps.toList)).length ≤ 1000 := by
      refine Nat.le_trans (List.length_filter_le _ _) ?_
      rw [Array.length_toList]
      exact ly'
    have hj := join_signs (y.cps.toList.filter fun c => decide (c ∈ z.cps.toList))
    generalize hcs : (y.cps.toList.filter fun c => decide (c ∈ z.cps.toList)) = cs at hc hl hj
    refine ⟨_, D, cs.map fun c => (⟨#[c]⟩ : Str), rfl, rfl, .inl (SqL.of (by rw [List.map_map]; exact hc)), ?_, ?_⟩
    · have e : ((cs.map fun c => (⟨#[c]⟩ : Str)).map (·.length)).sum = cs.length := by
        clear hc hl hcs hj
        induction cs with
        | nil => rfl
        | cons c cs ih =>
          rw [List.map_cons, List.map_cons, List.sum_cons, ih, List.length_cons]
          show 1 + cs.length = cs.length + 1
          omega
      rw [e, List.length_map, show (Str.ofString "").length = 0 from rfl, Nat.mul_zero]
      omega
    · have ej : Txt.join (Str.ofString "") (cs.map fun c => (⟨#[c]⟩ : Str)) = fewerR y z := by
        apply str_ext
        rw [hj, ← hcs]
        rfl
      rw [ej]
      exact k H2 o2
theorem ok_is_rights {f : Addr} {fd : FuncData} (F : Fun K "is_rights" "is_rights" s_is_rights f fd) (T : Tx mg) (G : Gw mg) (D_common_rights : Df P w K mg base 1 "common_rights" P_common_rights [] spCommon) : FnOk P w K mg base CX0 2 f fd P_is_rights spIsRights := by
  have sc := sc_is_rights
  refine F.ok sc (fun vs H Q E h => ?_) (fun cdv A outer s H vs Q E hr h => ?_)
  · obtain ⟨v, rfl, _⟩ := h
    rfl
  obtain ⟨v, rfl, hv, k⟩ := h
  have hu64 := hr.units
  refine ⟨_, ((pss_one (ps_ret (pe_and (qisi (isi_str _) T.isinstance T.str (qv 0)) (pe_one (pe_cmpR (oq_eq K hu64) (qv 0) (qcall D_common_rights (by first | exact hr | exact hr.mono (by omega)) (pa_cons (pe_globS G.RIGHTS) (pa_cons (qv 0) pa_nil))) (nomark _)))))) : PSs _ [_] _), ?_⟩
  cases v with
  | str z =>
    refine ⟨_, rfl, ?_⟩
    refine ⟨Str.ofString "ghls", z, rfl, (by decide), fun H1 s1 => ⟨rfl, ?_⟩⟩
    have e : rightsB (.str z) = decide (V.str z = V.str (fewerR (Str.ofString "ghls") z)) := by
      show decide (z = fewerR "ghls" z) = _
      exact decide_eq_decide.mpr ⟨fun q => congrArg V.str q, fun q => V.str.inj q⟩
    have q := k H1 s1
    rw [e] at q
    exact q
  | int i => exact ⟨_, rfl, k H (Same.refl H)⟩
  | bl b => exact ⟨_, rfl, k H (Same.refl H)⟩
  | non => exact ⟨_, rfl, k H (Same.refl H)⟩
  | ref a =>
    rcases hv with ⟨xs, hv⟩ | ⟨xs, hv⟩
    · exact .inl ⟨_, hv, _, rfl, k H (Same.refl H)⟩
    · exact .inr ⟨_, hv, _, rfl, k H (Same.refl H)⟩
  | _ => exact hv.elim
end
end Tm
set_option Elab.async false
set_option linter.all false
set_option maxRecDepth 100000
set_option maxHeartbeats 1000000
namespace Sx
open PySem
section
variable {prog : Program} {w : World} {A : Around} {E : Value → Shared → Prop} {s : Shared}
theorem tupNext {it t : Addr} {i : Nat} {xs : Array Value} {x : Value} {Q : Value → Shared → Prop} (a : s.heap.IsTupleIter it t i) (b : s.heap.IsTuple t xs) (e : xs[i]? = some x)
    (k : ∀ h', h'.IsTupleIter it t (i + 1) → Heap.SameBut it s.heap h' → Q x { s with heap := h' }) : wpAny (model prog w) A (Builtin.SmallTypes.nextOf (.ref it)) Q E s := by
  obtain ⟨o, h1, h2, h3⟩ := id a
  obtain ⟨p, g1, _, n, g2⟩ := b
  refine wpAny_bind (wpAny_callSpecial?_slot (name := Str.ofString "__next__") a.typeIs F.slot_tuple_iterator_next (wpAny_call_entry F.slot_tuple_iterator_next a.typeIs F.entry_tuple_iterator_next ?_ (F.args_tuple_iterator_next_1 _)))
  wp_walk using wpAny_field h1 h3 (i := 0) rfl, wpAny_field h1 h3 (i := 1) rfl
  rw [g2]
  refine wpAny_pure ?_
  simp only [Int.toNat_natCast, e]
  refine wpAny_bind (wpAny_setField h1 h3 (by simp) (wpAny_pure ⟨x, rfl, wpAny_pure (k _ ⟨_, Heap.get?_update_self _ h1 (Obj.isFreed_of_fields (Obj.data_mapFields h3 _)), (Obj.cls_mapFields ..).trans h2, ?_⟩ (Heap.SameBut.update ..))⟩))
  rw [Obj.data_mapFields h3]
  simp [rawInt]
theorem tupStop {it t : Addr} {i : Nat} {xs : Array Value} {Q : Value → Shared → Prop} (hn : A.handled = none) (a : s.heap.IsTupleIter it t i) (b : s.heap.IsTuple t xs) (e : xs[i]? = none)
    (k : ∀ h' e, Heap.ExtBut it s.heap h' → (∃ o, h'.get? e = some o ∧ o.cls = .type "StopIteration") → E (.ref e) { s with heap := h' }) : wpAny (model prog w) A (Builtin.SmallTypes.nextOf (.ref it)) Q E s := by
  obtain ⟨o, h1, h2, h3⟩ := id a
  obtain ⟨p, g1, _, n, g2⟩ := b
  have hn1 : A.in1.handled = none := hn
  refine wpAny_bind (wpAny_callSpecial?_slot (name := Str.ofString "__next__") a.typeIs F.slot_tuple_iterator_next (wpAny_call_entry F.slot_tuple_iterator_next a.typeIs F.entry_tuple_iterator_next ?_ (F.args_tuple_iterator_next_1 _)))
  wp_walk using wpAny_field h1 h3 (i := 0) rfl, wpAny_field h1 h3 (i := 1) rfl
  rw [g2]
  refine wpAny_pure ?_
  simp only [Int.toNat_natCast, e]
  refine wpAny_bind (wpAny_rule (wpAny_bind (wpAny_setField h1 h3 (by simp) ?_)))
  wp_walk
  unfold raiseNew
  refine wpAny_bind (wpAny_handled ?_)
  rw [hn1]
  exact wpAny_bind (wpAny_pure (wpAny_throw (k _ _ (((Heap.SameBut.update ..).extBut.push _).push _) ⟨_, Heap.get?_push_size _ rfl, rfl⟩)))
def SeqB (t : Bool) (h : Heap) (a : Addr) (xs : Array Value) : Prop := match t with | false => h.IsList a xs | true => h.IsTuple a xs
def ItB (t : Bool) (h : Heap) (it a : Addr) (i : Nat) : Prop := match t with | false => h.IsListIter it a i | true => h.IsTupleIter it a i
theorem SeqB.keep {t : Bool} {h h' : Heap} {a : Addr} {xs : Array Value} (q : SeqB t h a xs) (k : ∀ o, h.get? a = some o → h'.get? a = some o) : SeqB t h' a xs := by
  cases t <;> exact let ⟨p, f, r⟩ := q; ⟨p, k _ f, r⟩
theorem ItB.keep {t : Bool} {h h' : Heap} {it a : Addr} {i : Nat} (q : ItB t h it a i) (k : ∀ o, h.get? it = some o → h'.get? it = some o) : ItB t h' it a i := by
  cases t <;> exact let ⟨p, f, r⟩ := q; ⟨p, k _ f, r⟩
theorem ItB.live {t : Bool} {h : Heap} {it a : Addr} {i : Nat} (q : ItB t h it a i) : ∃ o, h.get? it = some o ∧ ∀ v, o.data ≠ .cell v := by
  cases t <;> exact let ⟨p, f, _, d⟩ := q; ⟨p, f, fun v z => by rw [d] at z; cases z⟩
theorem draws (hn : A.handled = none) (t : Bool) (it a : Addr) (ne : a ≠ it) (xs : Array Value) : Draws prog w A it [it, a] xs.size (fun i v => xs[i]? = some v) (fun i h => ItB t h it a i ∧ SeqB t h a xs) where
  live := fun i h q => let ⟨o, e, _⟩ := q.1.live; ⟨o, e⟩
  frame := fun i h h' q k => ⟨q.1.keep fun o e => k _ (by simp) o e, q.2.keep fun o e => k _ (by simp) o e⟩
  item := fun i s Q E l q k => by
    obtain ⟨p, r⟩ := q
    cases t with
    | false => exact wpAny_nextOf_list_item p r (x := xs[i]) (by simp [l]) fun h' p' sb => k _ h' s.toks (by simp [l]) ⟨p', r.keep fun o e => sb.extBut _ _ ne e⟩ sb
    | true => exact tupNext p r (x := xs[i]) (by simp [l]) fun h' p' sb => k _ h' s.toks (by simp [l]) ⟨p', r.keep fun o e => sb.extBut _ _ ne e⟩ sb
  done := fun s Q E q k => by
    obtain ⟨p, r⟩ := q
    cases t with
    | false => exact wpAny_nextOf_list_end hn p r (by simp) k
    | true => exact tupStop hn p r (by simp) k
end
end Sx
set_option Elab.async false
set_option linter.all false
set_option maxRecDepth 100000
set_option maxHeartbeats 1000000
namespace Sx
open PySem
section
variable {prog : Program} {w : World} {A : Around} {E : Value → Shared → Prop} {s : Shared}
theorem zipItem {z TI TO i1 i2 : Addr} {f1 f2 : List Addr} {n1 n2 i j : Nat} {P1 P2 : Nat → Value → Prop} {S1 S2 : Nat → Heap → Prop} {a b : Value} {Q : Value → Shared → Prop}
    (D1 : Draws prog w A i1 f1 n1 P1 S1) (D2 : Draws prog w A i2 f2 n2 P2 S2) (hz : IsZip s.heap z TI TO .none) (hI : IsPair s.heap TI (.ref i1) (.ref i2)) (hO : IsPair s.heap TO a b) (s1 : S1 i s.heap) (s2 : S2 j s.heap) (l1 : i < n1) (l2 : j < n2) 
    (ne : z ∉ f1 ∧ z ∉ f2 ∧ TO ∉ f1 ∧ TO ∉ f2 ∧ i1 ∉ f2 ∧ i2 ∉ f1) (n : z ≠ TO ∧ z ≠ i1 ∧ z ≠ i2 ∧ TO ≠ i1 ∧ TO ≠ i2)
    (k : ∀ x y h' tk, P1 i x → P2 j y → IsZip h' z TI TO (rawInt s.heap.objs.size) → IsPair h' TO x y → S1 (i + 1) h' → S2 (j + 1) h' → IsPair h' s.heap.objs.size x y → h'.objs.size = s.heap.objs.size + 1 →
      (∀ c o, c ≠ z → c ≠ TO → c ≠ i1 → c ≠ i2 → s.heap.get? c = some o → h'.get? c = some o) → Q (.ref s.heap.objs.size) { s with heap := h', toks := tk }) :
    wpAny (model prog w) A (Builtin.«zip.__next__» ⟨[.ref z], []⟩) (fun fin s' => ∃ v, fin = .done (.ret v) ∧ Q v s') E s := by
  obtain ⟨nz1, nz2, no1, no2, n12, n21⟩ := ne
  obtain ⟨zo, z1, z2, o1, o2⟩ := n
  unfold Builtin.«zip.__next__»
  wp_walk using wpAny_field hz rfl (i := 2) rfl, wpAny_field hz rfl (i := 3) rfl, wpAny_seqItems hI rfl, wpAny_field hz rfl (i := 0) rfl, wpAny_field hz rfl (i := 4) rfl, wpAny_setField_rec hz (by simp)
  intro h1 zh1 b1
  have t1 : S1 i h1 := D1.frame _ _ _ s1 fun c hc o e => b1.extBut _ _ (fun q => nz1 (q ▸ hc)) e
  refine wpAny_bind ?_
  simp only [List.zipIdx_cons, List.zipIdx_nil, List.forIn_cons, List.forIn_nil]
  refine wpAny_bind (wpAny_bind (wpAny_onRaise ?_))
  show wpAny _ _ (Builtin.SmallTypes.nextOf (.ref i1) >>= fun v => pure (some v)) _ _ _
  refine wpAny_bind (D1.item i _ _ _ l1 t1 fun x h2 tk2 p2 t2 b2 => wpAny_pure ?_)
  have O2 : IsPair h2 TO a b := b2.extBut _ _ o1 (b1.extBut _ _ zo.symm hO)
  refine wpAny_bind (wpAny_seqItems O2 rfl (wpAny_bind (wpAny_updateSeq_pair O2 fun h3 O3 b3 => ?_)))
  have O3 : IsPair h3 TO x b := O3
  refine wpAny_bind (wpAny_letGo (wpAny_pure (wpAny_bind (wpAny_bind (wpAny_onRaise ?_)))))
  show wpAny _ _ (Builtin.SmallTypes.nextOf (.ref i2) >>= fun v => pure (some v)) _ _ _
  have t3 : S2 j h3 := D2.frame _ _ _ s2 fun c hc o e => b3.extBut _ _ (fun q => no2 (q ▸ hc)) (b2.extBut _ _ (fun q => n12 (q ▸ hc)) (b1.extBut _ _ (fun q => nz2 (q ▸ hc)) e))
  refine wpAny_bind (D2.item j _ _ _ l2 t3 fun y h4 tk4 p4 t4 b4 => wpAny_pure ?_)
  have O4 : IsPair h4 TO x b := b4.extBut _ _ o2 O3
  refine wpAny_bind (wpAny_seqItems O4 rfl (wpAny_bind (wpAny_updateSeq_pair O4 fun h5 O5 b5 => ?_)))
  have O5 : IsPair h5 TO x y := O5
  refine wpAny_bind (wpAny_letGo (wpAny_pure (wpAny_pure (wpAny_bind (wpAny_seqItems O5 rfl (wpAny_bind (wpAny_newTuple ?_)))))))
  have sz : h5.objs.size = s.heap.objs.size := by rw [b5.1, b4.1, b3.1, b2.1, b1.1]
  have far : ∀ c o, c ≠ TO → c ≠ i1 → c ≠ i2 → h1.get? c = some o → h5.get? c = some o := fun c o c1 c2 c3 e => b5.extBut _ _ c1 (b4.extBut _ _ c3 (b3.extBut _ _ c1 (b2.extBut _ _ c2 e)))
  have zh5 : IsZip h5 z TI TO .ellipsis := far _ _ zo z1 z2 zh1
  have zl : z < h5.objs.size := Heap.lt_size zh5
  refine wpAny_bind ?_
  unfold Builtin.SmallTypes.ownedTupleHandOut
  refine wpAny_bind (wpAny_setField_rec (Heap.get?_push_of_some _ zh5) (by simp) fun h6 zh6 b6 => ?_)
  refine wpAny_setField_rec zh6 (by simp) fun h7 zh7 b7 => wpAny_pure ⟨_, rfl, ?_⟩
  have up : ∀ c o, c ≠ z → h5.get? c = some o → h7.get? c = some o := fun c o c1 e => b7.extBut _ _ c1 (b6.extBut _ _ c1 (Heap.get?_push_of_some _ e))
  have T7 : IsPair h7 h5.objs.size x y := b7.extBut _ _ (Nat.ne_of_gt zl) (b6.extBut _ _ (Nat.ne_of_gt zl) (Heap.get?_push_size _ rfl))
  have zz : IsZip h7 z TI TO (rawInt h5.objs.size) := zh7
  have s7 : h7.objs.size = h5.objs.size + 1 := by rw [b7.1, b6.1, Heap.size_push]
  show Q (.ref h5.objs.size) _
  rw [sz] at T7 zz s7 ⊢
  refine k x y h7 tk4 p2 p4 zz (up _ _ zo.symm O5) ?_ ?_ T7 s7 fun c o c1 c2 c3 c4 e => up _ _ c1 (far _ _ c2 c3 c4 (b1.extBut _ _ c1 e))
  · exact D1.frame _ _ _ t2 fun c hc o e => up _ _ (fun q => nz1 (q ▸ hc)) (b5.extBut _ _ (fun q => no1 (q ▸ hc)) (b4.extBut _ _ (fun q => n21 (q ▸ hc)) (b3.extBut _ _ (fun q => no1 (q ▸ hc)) e)))
  · exact D2.frame _ _ _ t4 fun c hc o e => up _ _ (fun q => nz2 (q ▸ hc)) (b5.extBut _ _ (fun q => no2 (q ▸ hc)) e)
theorem zipStop {z TI TO i1 i2 : Addr} {f1 f2 : List Addr} {n1 n2 i j : Nat} {P1 P2 : Nat → Value → Prop} {S1 S2 : Nat → Heap → Prop} {a b : Value} {Q : Fin → Shared → Prop}
    (D1 : Draws prog w A i1 f1 n1 P1 S1) (D2 : Draws prog w A i2 f2 n2 P2 S2) (hz : IsZip s.heap z TI TO .none) (hI : IsPair s.heap TI (.ref i1) (.ref i2)) (hO : IsPair s.heap TO a b) (s1 : S1 i s.heap) (s2 : S2 j s.heap) (l : i = n1 ∨ (i < n1 ∧ j = n2))
    (ne : z ∉ f1 ∧ z ∉ f2 ∧ TO ∉ f1 ∧ TO ∉ f2 ∧ i1 ∉ f2 ∧ i2 ∉ f1) (n : z ≠ TO ∧ z ≠ i1 ∧ z ≠ i2 ∧ TO ≠ i1 ∧ TO ≠ i2)
    (k : ∀ h' e tk, (∀ c o, c ≠ z → c ≠ TO → c ≠ i1 → c ≠ i2 → s.heap.get? c = some o → h'.get? c = some o) → (∃ o, h'.get? e = some o ∧ o.cls = .type "StopIteration") → E (.ref e) { s with heap := h', toks := tk }) :
    wpAny (model prog w) A (Builtin.«zip.__next__» ⟨[.ref z], []⟩) Q E s := by
  obtain ⟨nz1, nz2, no1, no2, n12, n21⟩ := ne
  obtain ⟨zo, z1, z2, o1, o2⟩ := n
  unfold Builtin.«zip.__next__»
  wp_walk using wpAny_field hz rfl (i := 2) rfl, wpAny_field hz rfl (i := 3) rfl, wpAny_seqItems hI rfl, wpAny_field hz rfl (i := 0) rfl, wpAny_field hz rfl (i := 4) rfl, wpAny_setField_rec hz (by simp)
  intro h1 zh1 b1
  have t1 : S1 i h1 := D1.frame _ _ _ s1 fun c hc o e => b1.extBut _ _ (fun q => nz1 (q ▸ hc)) e
  refine wpAny_bind ?_
  simp only [List.zipIdx_cons, List.zipIdx_nil, List.forIn_cons, List.forIn_nil]
  refine wpAny_bind (wpAny_bind (wpAny_onRaise ?_))
  show wpAny _ _ (Builtin.SmallTypes.nextOf (.ref i1) >>= fun v => pure (some v)) _ _ _
  -- what the zip does with a source's end
  have fin : ∀ (h : Heap) (e : Addr) (tk : Nat), IsZip h z TI TO .ellipsis → (∃ o, h.get? e = some o ∧ o.cls = .type "StopIteration") → (∀ c o, c ≠ z → c ≠ TO → c ≠ i1 → c ≠ i2 → s.heap.get? c = some o → h.get? c = some o) →
      wpAny (model prog w) A (setField (.ref z) 0 .none) (fun _ s'' => E (.ref e) s'') E { s with heap := h, toks := tk } := fun h e tk zh ⟨o, eo, co⟩ kp =>
    wpAny_setField_rec zh (by simp) fun h' _ b' => k h' e tk (fun c o c1 c2 c3 c4 q => b'.extBut _ _ c1 (kp c o c1 c2 c3 c4 q)) ⟨o, b'.extBut _ _ (fun q => by subst q; rw [zh] at eo; cases eo; simp at co) eo, co⟩
  rcases l with rfl | ⟨l, rfl⟩
  · refine wpAny_bind (D1.done _ _ _ t1 fun h2 e b2 he => ?_)
    exact fin h2 e s.toks (b2 _ _ z1 zh1) he fun c o c1 _ c3 _ q => b2 _ _ c3 (b1.extBut _ _ c1 q)
  · refine wpAny_bind (D1.item i _ _ _ l t1 fun x h2 tk2 p2 t2 b2 => wpAny_pure ?_)
    have O2 : IsPair h2 TO a b := b2.extBut _ _ o1 (b1.extBut _ _ zo.symm hO)
    refine wpAny_bind (wpAny_seqItems O2 rfl (wpAny_bind (wpAny_updateSeq_pair O2 fun h3 O3 b3 => ?_)))
    refine wpAny_bind (wpAny_letGo (wpAny_pure (wpAny_bind (wpAny_bind (wpAny_onRaise ?_)))))
    show wpAny _ _ (Builtin.SmallTypes.nextOf (.ref i2) >>= fun v => pure (some v)) _ _ _
    have t3 : S2 j h3 := D2.frame _ _ _ s2 fun c hc o e => b3.extBut _ _ (fun q => no2 (q ▸ hc)) (b2.extBut _ _ (fun q => n12 (q ▸ hc)) (b1.extBut _ _ (fun q => nz2 (q ▸ hc)) e))
    refine wpAny_bind (D2.done _ _ _ t3 fun h4 e b4 he => ?_)
    exact fin h4 e tk2 (b4 _ _ z2 (b3.extBut _ _ zo (b2.extBut _ _ z1 zh1))) he fun c o c1 c2 c3 c4 q => b4 _ _ c4 (b3.extBut _ _ c2 (b2.extBut _ _ c3 (b1.extBut _ _ c1 q)))
theorem srcIter {t : Bool} {a : Addr} {xs : Array Value} {Q : Value → Shared → Prop} (ha : SeqB t s.heap a xs)
    (k : ∀ o : Obj, o.isFreed = false → (∀ h' : Heap, h'.get? s.heap.objs.size = some o → ItB t h' s.heap.objs.size a 0) → Q (.ref s.heap.objs.size) { s with heap := s.heap.push o }) :
    wpAny (model prog w) A (pyIter (.ref a)) Q E s := by
  cases t with
  | false => exact wpAny_pyIter_list ha (k _ rfl fun h' e => ⟨_, e, rfl, rfl⟩)
  | true => exact wpAny_pyIter_tuple ha (k _ rfl fun h' e => ⟨_, e, rfl, rfl⟩)
theorem SeqB.push {t : Bool} {h : Heap} {a : Addr} {xs : Array Value} (o : Obj) (ha : SeqB t h a xs) : SeqB t (h.push o) a xs := ha.keep fun p e => Heap.get?_push_of_some _ e
theorem zipNew {t1 t2 : Bool} {a b : Addr} {xs ys : Array Value} {Q : Value → Shared → Prop} (ha : SeqB t1 s.heap a xs) (hb : SeqB t2 s.heap b ys)
    (k : ∀ h', IsZip h' (s.heap.objs.size + 4) (s.heap.objs.size + 2) (s.heap.objs.size + 3) .none → IsPair h' (s.heap.objs.size + 2) (.ref s.heap.objs.size) (.ref (s.heap.objs.size + 1)) → IsPair h' (s.heap.objs.size + 3) .none .none →
      ItB t1 h' s.heap.objs.size a 0 → ItB t2 h' (s.heap.objs.size + 1) b 0 → (∀ c o, s.heap.get? c = some o → h'.get? c = some o) → Q (.ref (s.heap.objs.size + 4)) { s with heap := h' }) :
    wpAny (model prog w) A (call (.type "zip") [.ref a, .ref b]) Q E s := by
  have mk : Meets (Builtin.«zip.__new__» ⟨[.type "zip", .ref a, .ref b], []⟩) (fun _ R t => SeqB t1 t.heap a xs ∧ SeqB t2 t.heap b ys ∧
      ∀ h', IsZip h' (t.heap.objs.size + 4) (t.heap.objs.size + 2) (t.heap.objs.size + 3) .none → IsPair h' (t.heap.objs.size + 2) (.ref t.heap.objs.size) (.ref (t.heap.objs.size + 1)) → IsPair h' (t.heap.objs.size + 3) .none .none →
      ItB t1 h' t.heap.objs.size a 0 → ItB t2 h' (t.heap.objs.size + 1) b 0 → (∀ c o, t.heap.get? c = some o → h'.get? c = some o) → R (.ok (.ret (.ref (t.heap.objs.size + 4)))) { t with heap := h' }) := .of_wp fun prog w A R t h => by
    obtain ⟨hp, g, d, tk, os⟩ := t
    obtain ⟨h1, h2, h⟩ := h
    have hsub := sub_zip
    wp_walk using srcIter h1
    intro o1 f1 q1
    wp_walk using srcIter (SeqB.push o1 h2)
    intro o2 f2 q2
    wp_walk
    refine ⟨_, rfl, ?_⟩
    simp only [Heap.size_push, Nat.add_assoc] at h q1 q2 ⊢
    have up : ∀ (h : Heap) (o o' o'' : Obj) c p, h.get? c = some p → (((h.push o).push o').push o'').get? c = some p := fun h o o' o'' c p e => Heap.get?_push_of_some _ (Heap.get?_push_of_some _ (Heap.get?_push_of_some _ e))
    have z1 : (hp.push o1).objs.size = hp.objs.size + 1 := Heap.size_push ..
    have z2 : ((hp.push o1).push o2).objs.size = hp.objs.size + 2 := by rw [Heap.size_push, z1]
    refine h _ ?_ ?_ ?_ (q1 _ (up _ _ _ _ _ _ (Heap.get?_push_of_some _ (Heap.get?_push_size _ f1)))) (q2 _ (up _ _ _ _ _ _ ?_)) (fun c o e => up _ _ _ _ _ _ (Heap.get?_push_of_some _ (Heap.get?_push_of_some _ e)))
    · refine Heap.get?_push_at ?_ rfl
      simp only [Heap.size_push]
    · refine Heap.get?_push_of_some _ (Heap.get?_push_of_some _ (Heap.get?_push_at ?_ rfl))
      simp only [Heap.size_push]
    · refine Heap.get?_push_of_some _ (Heap.get?_push_at ?_ rfl)
      simp only [Heap.size_push]
    · exact Heap.get?_push_at z1.symm f2
  exact callType_new F.called_zip (by decide) (F.typeCall_zip_2 _ _) (F.newCall_zip_2 _ _) (fun obj => F.args_object_init_3 obj _ _) F.entry_zip_new mk ⟨ha, hb, fun h' e1 e2 e3 e4 e5 e6 => ⟨⟨_, e1, rfl⟩, k h' e1 e2 e3 e4 e5 e6⟩⟩
end
end Sx
set_option Elab.async false
set_option linter.all false
set_option maxRecDepth 100000
set_option maxHeartbeats 1000000
namespace L2
open PySem PySem.Spec PyProof.Rows Sx
def SqB (t : Bool) (K : PySem.W.Frag) (H : Hp) (a : Addr) (xs : List V) : Prop := match t with | false => SqL K H a xs | true => SqT K H a xs
theorem Inv.seqB {X : Cx} {pins : List (Addr × Obj)} {σ : St} {H : Hp} {s : Shared} {t : Bool} {a : Addr} {xs : List V} (I : Inv X pins σ H s) (q : SqB t X.K H a xs) : ∃ its : List Value, Vals xs its ∧ SeqB t s.heap a its.toArray := by
  cases t with
  | false =>
    obtain ⟨its, rv, p, _⟩ := I.list q
    exact ⟨its, rv, p.isList⟩
  | true =>
    obtain ⟨its, rv, p, _⟩ := I.tuple q
    exact ⟨its, rv, p⟩
theorem Inv.seqB_inj {X : Cx} {pins : List (Addr × Obj)} {σ : St} {H : Hp} {s : Shared} {t : Bool} {a : Addr} {xs ys : List V} (I : Inv X pins σ H s) (q : SqB t X.K H a xs) (r : SqB t X.K H a ys) : xs = ys := by
  cases t with
  | false => exact I.list_inj q r
  | true => exact I.tuple_inj q r
theorem seqB_lt {t : Bool} {h : Heap} {a : Addr} {xs : Array Value} (q : SeqB t h a xs) : a < h.objs.size := by
  cases t <;> exact let ⟨_, e, _⟩ := q; Heap.lt_size e
def Itz2 (K : PySem.W.Frag) (t1 t2 : Bool) (a b : Addr) : It :=
  ⟨fun i H => ∃ (xs ys : List V) (x y : V), SqB t1 K H a xs ∧ SqB t2 K H b ys ∧ xs[i]? = some x ∧ ys[i]? = some y,
    fun i H v H' => ∃ T x y, v = .ref T ∧ H T = none ∧ H' = upd H T (.tup [x, y]) ∧ (∀ xs, SqB t1 K H a xs → xs[i]? = some x) ∧ ∀ ys, SqB t2 K H b ys → ys[i]? = some y,
    fun i H => ∃ xs ys : List V, SqB t1 K H a xs ∧ SqB t2 K H b ys ∧ i ≤ xs.length ∧ i ≤ ys.length ∧ (i = xs.length ∨ i = ys.length)⟩
def Zp (t1 t2 : Bool) (a b n : Addr) (i : Nat) (h : Heap) : Prop :=
  IsZip h (n + 4) (n + 2) (n + 3) .none ∧ IsPair h (n + 2) (.ref n) (.ref (n + 1)) ∧ (∃ x y, IsPair h (n + 3) x y) ∧ ItB t1 h n a i ∧ ItB t2 h (n + 1) b i
theorem fp5 {n c : Addr} (h : c ∈ [n + 4, n + 2, n + 3, n, n + 1]) : c = n + 4 ∨ c = n + 2 ∨ c = n + 3 ∨ c = n ∨ c = n + 1 := by simpa using h
theorem no5 {n c : Addr} (h : c ∉ [n + 4, n + 2, n + 3, n, n + 1]) : c ≠ n + 4 ∧ c ≠ n + 2 ∧ c ≠ n + 3 ∧ c ≠ n ∧ c ≠ n + 1 := by simpa using h
theorem ap5a (a b n : Nat) (la : a < n) (lb : b < n) : n + 4 ∉ [n, a] ∧ n + 4 ∉ [n + 1, b] ∧ n + 3 ∉ [n, a] ∧ n + 3 ∉ [n + 1, b] ∧ n ∉ [n + 1, b] ∧ n + 1 ∉ [n, a] := by
  refine ⟨?_, ?_, ?_, ?_, ?_, ?_⟩ <;> (intro z; simp at z; omega)
theorem ap5b (n : Nat) : n + 4 ≠ n + 3 ∧ n + 4 ≠ n ∧ n + 4 ≠ n + 1 ∧ n + 3 ≠ n ∧ n + 3 ≠ n + 1 := by
  refine ⟨?_, ?_, ?_, ?_, ?_⟩ <;> omega
theorem ap5c (a b n : Nat) (la : a < n) (lb : b < n) : a ≠ n ∧ b ≠ n + 1 ∧ n + 2 ≠ n + 4 ∧ n + 3 ≠ n + 4 ∧ n ≠ n + 4 ∧ n + 1 ≠ n + 4 ∧ n + 2 ≠ n + 3 ∧ n + 2 ≠ n ∧ n + 2 ≠ n + 1 := by
  refine ⟨?_, ?_, ?_, ?_, ?_, ?_, ?_, ?_, ?_⟩ <;> omega
theorem ap5d (c n m : Nat) (l : n + 4 < m) (h : c = n + 4 ∨ c = n + 2 ∨ c = n + 3 ∨ c = n ∨ c = n + 1) : c < m := by omega
theorem ap5e (c n : Nat) (h : c = n + 4 ∨ c = n + 2 ∨ c = n + 3 ∨ c = n ∨ c = n + 1) : n ≤ c := by omega
theorem turn_zip2 {P : Program} {w : World} {K : PySem.W.Frag} {elts : List Expr} {kk : Nat} {tpos : Pos} {t1 t2 : Bool} {a b n : Addr} (la : a < n) (lb : b < n) :
    Turn P w K (.Tuple elts kk tpos) (Itz2 K t1 t2 a b) [n + 4, n + 2, n + 3, n, n + 1] (n + 4) (Zp t1 t2 a b n) where
  mem := List.mem_cons_self ..
  obj := fun i h st c hc => by
    obtain ⟨hz, hI, ⟨x, y, hO⟩, d1, d2⟩ := st
    rcases fp5 hc with rfl | rfl | rfl | rfl | rfl
    · exact ⟨_, hz, fun v q => nomatch q⟩
    · exact ⟨_, hI, fun v q => nomatch q⟩
    · exact ⟨_, hO, fun v q => nomatch q⟩
    · exact d1.live
    · exact d2.live
  keep := fun i h h' st k => by
    obtain ⟨hz, hI, ⟨x, y, hO⟩, d1, d2⟩ := st
    exact ⟨k _ (by simp) _ hz, k _ (by simp) _ hI, ⟨x, y, k _ (by simp) _ hO⟩, d1.keep fun o q => k _ (by simp) o q, d2.keep fun o q => k _ (by simp) o q⟩
  item := by
    intro X hP hw hK hc i pins s σ H E I hf st hg
    subst hP hw hK
    obtain ⟨hz, hI, ⟨x0, y0, hO⟩, d1, d2⟩ := st
    obtain ⟨xs, ys, x, y, qx, qy, ex, ey⟩ := hg
    obtain ⟨is1, r1, p1⟩ := I.seqB qx
    obtain ⟨is2, r2, p2⟩ := I.seqB qy
    obtain ⟨u1, e1, v1⟩ := r1.get ex
    obtain ⟨u2, e2, v2⟩ := r2.get ey
    obtain ⟨a1, a2, a3, a4, a5, a6, a7, a8, a9⟩ := ap5c a b n la lb
    have zl : n + 4 < s.heap.objs.size := Heap.lt_size hz
    have i1 : i < is1.toArray.size := by simpa using (List.getElem?_eq_some_iff.mp e1).1
    have i2 : i < is2.toArray.size := by simpa using (List.getElem?_eq_some_iff.mp e2).1
    have hT : s.TypeIs (.ref (n + 4)) "zip" := ⟨_, hz, rfl⟩
    have hn : X.A.in1.handled = none := I.ok.hd hc
    unfold pyNext
    refine wpAny_bind (wpAny_attempt (wpAny_callSpecial?_slot (name := Str.ofString "__next__") hT F.slot_zip_next (wpAny_call_entry F.slot_zip_next hT F.entry_zip_next
      (zipItem (draws hn t1 n a a1 is1.toArray) (draws hn t2 (n + 1) b a2 is2.toArray) hz hI hO ⟨d1, p1⟩ ⟨d2, p2⟩ i1 i2 (ap5a a b n la lb) (ap5b n) fun x' y' h' tk q1 q2 z' O' D1 D2 T' sz kp => wpAny_pure ?_) (F.args_zip_next_1 _))))
    refine ⟨_, rfl, wpAny_letOwnedTupleGo_zip (s := { s with heap := h', toks := tk }) z' fun h'' z'' sb => ?_⟩
    have g1 : x' = u1 := by
      rw [List.getElem?_toArray, e1] at q1
      exact (Option.some.inj q1).symm
    have g2 : y' = u2 := by
      rw [List.getElem?_toArray, e2] at q2
      exact (Option.some.inj q2).symm
    subst g1 g2
    have T2 : IsPair h'' s.heap.objs.size x' y' := (sb.2 _ (Nat.ne_of_gt zl)).trans T'
    have new : ObjOk X.prog X.w (upd H s.heap.objs.size (.tup [x, y])) h'' s.heap.objs.size (.tup [x, y]) :=
      ⟨by show 2 ≤ sizeLine; decide, [x', y'], .cons v1 (.cons v2 .nil), ⟨_, T2, rfl, _, rfl⟩⟩
    have I1 : Inv X pins σ (upd H s.heap.objs.size (.tup [x, y])) { s with heap := h'', toks := tk } :=
      I.turnedNew (t' := tk) (ch := [n + 4, n + 2, n + 3, n, n + 1]) (fun c o hb q => by
        obtain ⟨c1, c2, c3, c4, c5⟩ := no5 hb
        exact (sb.2 c c1).trans (kp c o c1 c3 c4 c5 q)) hf (Nat.le_refl _) new
    refine ⟨.ref s.heap.objs.size, _, I1, rfl, ⟨_, x, y, rfl, I.hok.fresh (Nat.le_refl _), rfl, fun l hl => by rw [I.seqB_inj hl qx]; exact ex, fun l hl => by rw [I.seqB_inj hl qy]; exact ey⟩, ⟨z'', ?_, ⟨x', y', ?_⟩, ?_, ?_⟩, fun c hcm => ?_⟩
    · exact (sb.2 _ a3).trans (kp _ _ a3 a7 a8 a9 hI)
    · exact (sb.2 _ a4).trans O'
    · exact D1.1.keep fun o q => (sb.2 _ a5).trans q
    · exact D2.1.keep fun o q => (sb.2 _ a6).trans q
    · have hlt : c < s.heap.objs.size := ap5d c n _ zl (fp5 hcm)
      rw [upd_ne (Nat.ne_of_lt hlt)]
      exact (hf c hcm).1
  done := by
    intro X hP hw hK hc i pins s σ H E I hf st hg
    subst hP hw hK
    obtain ⟨hz, hI, ⟨x0, y0, hO⟩, d1, d2⟩ := st
    obtain ⟨xs, ys, qx, qy, l1, l2, hend⟩ := hg
    obtain ⟨is1, r1, p1⟩ := I.seqB qx
    obtain ⟨is2, r2, p2⟩ := I.seqB qy
    obtain ⟨a1, a2, a3, a4, a5, a6, a7, a8, a9⟩ := ap5c a b n la lb
    have m1 := r1.length
    have m2 := r2.length
    have hT : s.TypeIs (.ref (n + 4)) "zip" := ⟨_, hz, rfl⟩
    have hn : X.A.in1.handled = none := I.ok.hd hc
    unfold pyNext
    refine wpAny_bind (wpAny_attempt (wpAny_callSpecial?_slot (name := Str.ofString "__next__") hT F.slot_zip_next (wpAny_call_entry F.slot_zip_next hT F.entry_zip_next
      (zipStop (draws hn t1 n a a1 is1.toArray) (draws hn t2 (n + 1) b a2 is2.toArray) hz hI hO ⟨d1, p1⟩ ⟨d2, p2⟩ ?_ (ap5a a b n la lb) (ap5b n) fun h' e tk kp he => ?_) (F.args_zip_next_1 _))))
    · simp only [List.size_toArray]
      omega
    obtain ⟨o, eo, co⟩ := he
    refine wpAny_bind (wpAny_isInstance (T := "StopIteration") (b := true) ⟨o, eo, co⟩ isSubtype_stop (wpAny_pure ⟨rfl, ?_⟩))
    exact I.turnedL (t' := tk) (ch := [n + 4, n + 2, n + 3, n, n + 1]) (fun c o hb q => by
      obtain ⟨c1, c2, c3, c4, c5⟩ := no5 hb
      exact kp c o c1 c3 c4 c5 q) hf
  self := fun A i s Q E st h => wpAny_pyIter_zip st.1 h
def iZip2 (K : PySem.W.Frag) (t1 t2 : Bool) (ta : TA) : TI := fun σ H R => ta σ H fun vs H1 => ∃ a b xs ys, vs = [.ref a, .ref b] ∧ SqB t1 K H1 a xs ∧ SqB t2 K H1 b ys ∧ R (Itz2 K t1 t2 a b) H1
theorem pi_zip2 {X : Cx} (t1 t2 : Bool) {e e2 : Expr} {ta : TA} {p pos tpos : Pos} {elts : List Expr} {kk : Nat} (hg : Gl X "zip") (hm : X.mg "zip" = none) (ha : PA X [e, e2] ta)
    (hs : starEach [e, e2] X.env = (false, eval e X.env) :: starEach [e2] X.env := by rfl) (hpl : (backTo pos (starEach [e2] X.env)).any (·.1) = false := by rfl) :
    PI X (.Tuple elts kk tpos) (.Call (.Name "zip" p) [e, e2] [] pos) (iZip2 X.K t1 t2 ta) := by
  intro pins s σ H R I h
  refine Call_ (ld_blt I hg hm boot_zip5 (PyProof.Rows.callWith_type1 (thn (ha pos pins s σ H _ I h) fun us s1 ⟨vs, H1, I1, r1, q1⟩ => ?_) hs hpl))
  obtain ⟨a, b, xs, ys, ex, qx, qy, q⟩ := q1
  subst ex
  cases r1 with
  | cons r rr =>
    cases rr with
    | cons r' rr =>
      cases rr
      cases r
      cases r'
      obtain ⟨is1, r1, p1⟩ := I1.seqB qx
      obtain ⟨is2, r2, p2⟩ := I1.seqB qy
      refine zipNew p1 p2 fun h' hz hI hO d1 d2 kp => wpAny_pyIter_zip hz ?_
      have I2 : Inv X pins σ H1 { s1 with heap := h' } := I1.kept (t' := s1.toks) kp
      refine ⟨s1.heap.objs.size + 4, _, _, _, H1, rfl, I2, turn_zip2 (seqB_lt p1) (seqB_lt p2), ⟨hz, hI, ⟨_, _, hO⟩, d1, d2⟩, fun c hcm => ?_, q⟩
      have hle : s1.heap.objs.size ≤ c := ap5e c _ (fp5 hcm)
      exact I1.fpOk hle (I1.hok.fresh hle)
end L2
set_option Elab.async false
set_option linter.all false
set_option maxRecDepth 100000
set_option maxHeartbeats 1000000
namespace Sx
open PySem
section
variable {prog : Program} {w : World} {A : Around} {E : Value → Shared → Prop} {s : Shared}
theorem SeqB.obj {t : Bool} {h : Heap} {a : Addr} {xs : Array Value} (q : SeqB t h a xs) : ∃ o, h.get? a = some o := by
  cases t <;> exact let ⟨o, e, _⟩ := q; ⟨o, e⟩
theorem enumNew {t : Bool} {a : Addr} {xs : Array Value} {Q : Value → Shared → Prop} (ha : SeqB t s.heap a xs)
    (k : ∀ h', IsEnum h' (s.heap.objs.size + 1) s.heap.objs.size 0 .none → ItB t h' s.heap.objs.size a 0 → (∀ c o, s.heap.get? c = some o → h'.get? c = some o) → Q (.ref (s.heap.objs.size + 1)) { s with heap := h' }) :
    wpAny (model prog w) A (call (.type "enumerate") [.ref a]) Q E s := by
  have mk : Meets (Builtin.«enumerate.__new__» ⟨[.type "enumerate", .ref a], []⟩) (fun _ R u => SeqB t u.heap a xs ∧
      ∀ h', IsEnum h' (u.heap.objs.size + 1) u.heap.objs.size 0 .none → ItB t h' u.heap.objs.size a 0 → (∀ c o, u.heap.get? c = some o → h'.get? c = some o) → R (.ok (.ret (.ref (u.heap.objs.size + 1)))) { u with heap := h' }) := .of_wp fun prog w A R u h => by
    obtain ⟨hp, g, d, tk, os⟩ := u
    obtain ⟨h1, h⟩ := h
    obtain ⟨o, ho⟩ := h1.obj
    have hsub := sub_enumerate
    have fin : ∀ o1 : Obj, o1.isFreed = false → (∀ h' : Heap, h'.get? hp.objs.size = some o1 → ItB t h' hp.objs.size a 0) → R (.ok (.ret (.ref (hp.push o1).objs.size))) ⟨(hp.push o1).push { cls := .type "enumerate", data := .fields #[.none, .bool false, .ref hp.objs.size, rawInt 0, .none, .none] }, g, d, tk, os⟩ := fun o1 f1 q1 => by
      have z : (hp.push o1).objs.size = hp.objs.size + 1 := Heap.size_push ..
      rw [z]
      exact h _ (Heap.get?_push_at z.symm rfl) (q1 _ (Heap.get?_push_of_some _ (Heap.get?_push_size _ f1))) fun c p e => Heap.get?_push_of_some _ (Heap.get?_push_of_some _ e)
    clear h
    wp_walk using AutoSeq1.wpAny_loadPart' ho
    refine wpAny_stack_any fun st => wpAny_pure ?_
    split
    · rename_i c _ _ _ _ _
      cases (c == Value.type "enumerate") <;> (wp_walk using AutoSeq1.wpAny_loadPart' ho, srcIter h1; intro o1 f1 q1; wp_walk; exact ⟨_, rfl, fin o1 f1 q1⟩)
    · wp_walk using AutoSeq1.wpAny_loadPart' ho, srcIter h1
      intro o1 f1 q1
      wp_walk
      exact ⟨_, rfl, fin o1 f1 q1⟩
  exact callType_new F.called_enumerate (by decide) (F.typeCall_enumerate_1 _) (F.newCall_enumerate_1 _) (fun obj => F.args_object_init_2 obj _) F.entry_enumerate_new mk ⟨ha, fun h' e1 e2 e3 => ⟨⟨_, e1, rfl⟩, k h' e1 e2 e3⟩⟩
end
end Sx
namespace L2
open PySem PySem.Spec PyProof.Rows Sx
def Ite2 (K : PySem.W.Frag) (t : Bool) (a : Addr) : It :=
  ⟨fun i H => ∃ (xs : List V) (x : V), SqB t K H a xs ∧ xs[i]? = some x, fun i H v H' => ∃ T x, v = .ref T ∧ H T = none ∧ H' = upd H T (.tup [.int (i : Nat), x]) ∧ ∀ xs, SqB t K H a xs → xs[i]? = some x, fun i H => ∃ xs : List V, SqB t K H a xs ∧ i = xs.length⟩
def Ep (t : Bool) (a n : Addr) (i : Nat) (h : Heap) : Prop := (∃ old, IsEnum h (n + 1) n ((i : Nat) : Int) old) ∧ ItB t h n a i
theorem ap2a (a n : Nat) (l : a < n) : a ≠ n ∧ n + 1 ≠ n ∧ n + 1 ∉ [n, a] ∧ n ≠ n + 1 := by
  refine ⟨by omega, by omega, ?_, by omega⟩
  intro z
  simp at z
  omega
theorem ap2b (c n m : Nat) (h : c = n + 1 ∨ c = n) (l : n + 1 < m) : c < m := by omega
theorem ap2c (c n : Nat) (h : c = n + 1 ∨ c = n) : n ≤ c := by omega
theorem fp2 {n c : Addr} (h : c ∈ [n + 1, n]) : c = n + 1 ∨ c = n := by simpa using h
theorem no2 {n c : Addr} (h : c ∉ [n + 1, n]) : c ≠ n + 1 ∧ c ≠ n := by simpa using h
theorem turn_enum2 {P : Program} {w : World} {K : PySem.W.Frag} {elts : List Expr} {kk : Nat} {tpos : Pos} {t : Bool} {a n : Addr} (la : a < n) :
    Turn P w K (.Tuple elts kk tpos) (Ite2 K t a) [n + 1, n] (n + 1) (Ep t a n) where
  mem := List.mem_cons_self ..
  obj := fun i h st c hc => by
    obtain ⟨⟨old, he⟩, d⟩ := st
    rcases fp2 hc with rfl | rfl
    · exact ⟨_, he, fun v q => nomatch q⟩
    · exact d.live
  keep := fun i h h' st k => let ⟨⟨old, he⟩, d⟩ := st; ⟨⟨old, k _ (by simp) _ he⟩, d.keep fun o q => k _ (by simp) o q⟩
  item := by
    intro X hP hw hK hc i pins s σ H E I hf st hg
    subst hP hw hK
    obtain ⟨⟨old, he⟩, d⟩ := st
    obtain ⟨xs, x, q, ex⟩ := hg
    obtain ⟨is, r, p⟩ := I.seqB q
    obtain ⟨u, eu, vu⟩ := r.get ex
    obtain ⟨a1, a2, a3, a4⟩ := ap2a a n la
    have zl : n + 1 < s.heap.objs.size := Heap.lt_size he
    have il : i < is.toArray.size := by simpa using (List.getElem?_eq_some_iff.mp eu).1
    have hn : X.A.in1.handled = none := I.ok.hd hc
    refine wpAny_pyNext_enum_itemD (draws hn t n a a1 is.toArray) he ⟨d, p⟩ il a2 a3 fun x' h' tk qx ho dd hT sz kp => ?_
    refine ⟨_, rfl, wpAny_letOwnedTupleGo_enum (s := { s with heap := h', toks := tk + 1 }) ho fun h'' he' sb => ?_⟩
    have g1 : x' = u := by
      rw [List.getElem?_toArray, eu] at qx
      exact (Option.some.inj qx).symm
    subst g1
    have T2 : h''.get? s.heap.objs.size = some { cls := .type "tuple", data := .seq #[.int i tk, x'] } := (sb.2 _ (Nat.ne_of_gt zl)).trans hT
    have new : ObjOk X.prog X.w (upd H s.heap.objs.size (.tup [.int (i : Nat), x])) h'' s.heap.objs.size (.tup [.int (i : Nat), x]) :=
      ⟨by show 2 ≤ sizeLine; decide, [.int i tk, x'], .cons ⟨_, rfl⟩ (.cons vu .nil), ⟨_, T2, rfl, _, rfl⟩⟩
    have I1 : Inv X pins σ (upd H s.heap.objs.size (.tup [.int (i : Nat), x])) { s with heap := h'', toks := tk + 1 } :=
      I.turnedNew (ch := [n + 1, n]) (fun c o hb q => by
        obtain ⟨c1, c2⟩ := no2 hb
        exact (sb.2 c c1).trans (kp c o c1 c2 q)) hf (Nat.le_refl _) new
    refine ⟨.ref s.heap.objs.size, _, I1, rfl, ⟨_, x, rfl, I.hok.fresh (Nat.le_refl _), rfl, fun l hl => by rw [I.seqB_inj hl q]; exact ex⟩, ⟨⟨x', ?_⟩, dd.1.keep fun o q => (sb.2 _ a4).trans q⟩, fun c hcm => ?_⟩
    · have e1 : ((i + 1 : Nat) : Int) = (i : Int) + 1 := by omega
      rw [e1]
      exact he'
    · rw [upd_ne (Nat.ne_of_lt (ap2b c n _ (fp2 hcm) zl))]
      exact (hf c hcm).1
  done := by
    intro X hP hw hK hc i pins s σ H E I hf st hg
    subst hP hw hK
    obtain ⟨⟨old, he⟩, d⟩ := st
    obtain ⟨xs, q, rfl⟩ := hg
    obtain ⟨is, r, p⟩ := I.seqB q
    obtain ⟨a1, a2, a3, a4⟩ := ap2a a n la
    have hn : X.A.in1.handled = none := I.ok.hd hc
    obtain ⟨f0, f1, f2, f3, f4, f5⟩ := hf n (by simp)
    have hl : xs.length = is.toArray.size := by rw [r.length, List.size_toArray]
    refine wpAny_pyNext_enum_endD (draws hn t n a a1 is.toArray) he ⟨?_, p⟩ fun h' eb => ⟨rfl, I.turned (t' := s.toks) (fun b o hb q => eb b o hb q) f0 f1 f3 f4 f5⟩
    rw [← hl]
    exact d
  self := fun A i s Q E st h => let ⟨⟨_, he⟩, _⟩ := st; wpAny_pyIter_enum he h
def iEnum2 (K : PySem.W.Frag) (t : Bool) (ta : TA) : TI := fun σ H R => ta σ H fun vs H1 => ∃ a xs, vs = [.ref a] ∧ SqB t K H1 a xs ∧ R (Ite2 K t a) H1
theorem pi_enum2 {X : Cx} (t : Bool) {e : Expr} {ta : TA} {p pos tpos : Pos} {elts : List Expr} {kk : Nat} (hg : Gl X "enumerate") (hm : X.mg "enumerate" = none) (ha : PA X [e] ta) (hs : starEach [e] X.env = [(false, eval e X.env)] := by rfl) :
    PI X (.Tuple elts kk tpos) (.Call (.Name "enumerate" p) [e] [] pos) (iEnum2 X.K t ta) := by
  intro pins s σ H R I h
  refine Call_ (ld_blt I hg hm boot_enumerate (PyProof.Rows.callWith_type1 (thn (ha pos pins s σ H _ I h) fun us s1 ⟨vs, H1, I1, r1, q1⟩ => ?_) hs rfl))
  obtain ⟨a, xs, ex, hq, q⟩ := q1
  subst ex
  cases r1 with
  | cons r rr =>
    cases rr
    cases r
    obtain ⟨is, rv, p'⟩ := I1.seqB hq
    refine enumNew p' fun h' he d kp => wpAny_pyIter_enum he ?_
    have I2 : Inv X pins σ H1 { s1 with heap := h' } := I1.kept (t' := s1.toks) kp
    refine ⟨s1.heap.objs.size + 1, _, _, _, H1, rfl, I2, turn_enum2 (seqB_lt p'), ⟨⟨.none, he⟩, d⟩, fun c hcm => ?_, q⟩
    have hle : s1.heap.objs.size ≤ c := ap2c c _ (fp2 hcm)
    exact I1.fpOk hle (I1.hok.fresh hle)
end L2
set_option Elab.async false
set_option linter.all false
set_option maxRecDepth 100000
set_option maxHeartbeats 1000000
namespace L2
open PySem PySem.Spec PyProof.Rows
section
variable {X : Cx}
theorem mt_removeprefix : MtR X "str.removeprefix" (fun x xs H Q => ∃ a b, x = .str a ∧ xs = [.str b] ∧ a.length ≤ sizeLine ∧ Q (.str (Txt.removeprefix a b)) H) := by
  intro pins s σ H x xs v us Q I rx rs h
  obtain ⟨a, b, rfl, rfl, hz, h⟩ := h
  obtain ⟨t, rfl⟩ := rx
  obtain ⟨u, rfl, t', rfl⟩ := vals1 rs
  exact PySem.SC.removeprefix (fun t' k => ⟨.str _, H, I.tok k, ⟨t', rfl⟩, h⟩) hz
def rStrA : List V → Hp → VK → Prop := fun xs H Q => match xs with
  | [.int i] => i.natAbs.log2 < 1920 ∧ Q (.str (toString i)) H
  | [.str x] => Q (.str x) H
  | _ => False
theorem cq_str : CallR X (.type "str") rStrA := by
  intro pins s σ H xs us Q I r h
  unfold rStrA at h
  split at h
  · obtain ⟨u, rfl, t, rfl⟩ := vals1 r
    exact PySem.P.str_of_int h.1 ⟨.str _, H, I.tok _, ⟨_, rfl⟩, h.2⟩
  · obtain ⟨u, rfl, t, rfl⟩ := vals1 r
    exact PySem.P.str_of_str ⟨.str _, H, I, ⟨_, rfl⟩, h⟩
  · exact h.elim
end
section
variable {X : Cx} {x : Str} {a : Addr} {kvs : List (Key × V)} {e f : Expr} {ty tx : TE} {apos cpos p : Pos}
def getT (kvs : List (Key × V)) (y : V) (z : V) (Q : V → Prop) : Prop := match y with | .str k => Q ((valV kvs (.inr k)).getD z) | _ => False
theorem pk_get2 (D : KDict X.w X.K a kvs) (hm : X.mg x = some (.ref a)) (he : PE X e ty) (hf : PE X f tx) (m : M2 X (.Name x p) "get" apos e f cpos) (hg : Gl X x := by rfl) (hd : (x == ("__debug__" : Str)) = false := by decide) :
    PE X (.Call (.Attribute (.Name x p) "get" apos) [e, f] [] cpos) (fun σ H Q => ty σ H fun y H1 => tx σ H1 fun z H2 => getT kvs y z fun v => Q v H2) := by
  intro pins s σ H Q I h
  refine wpAny_Call_method m.base m.few m.line PySem.F.plainAttrs_dict PySem.F.slot_dict_get PySem.F.type_dict_get (ld_glob I hg hm ?_ hd)
  obtain ⟨vs, r, dd⟩ := D.dict (P := X.prog) I.kIn
  refine ⟨dd.typeIs, fun b eb => by
    cases eb
    obtain ⟨o, es, ep, l, ex, d, _⟩ := D.ex
    exact ⟨o, I.kIn _ _ l, ex.2.1⟩, ?_⟩
  rw [m.trees]
  refine Calls.callWith_builtin rfl (Calls.evalArgs_plain (Calls.spliced_cons (thn (he pins s σ H _ I h) fun iv s2 ⟨y, H2, I2, ry, q2⟩ =>
    Calls.spliced_cons (thn (hf pins s2 σ H2 _ I2 q2) fun fv s3 ⟨z, H3, I3, rz, q3⟩ => Calls.spliced_nil ?_))))
  cases y with
  | str k =>
    obtain ⟨t, rfl⟩ := ry
    obtain ⟨vs, r, dd⟩ := D.dict (P := X.prog) I3.kIn
    refine call_meetsIn PySem.F.slot_dict_get dd.typeIs PySem.F.entry_dict_get (PySem.F.args_dict_get_3 _ _ _) (meets_dict_get_default (mixKind X.prog X.w) a (kV_is (k := .inr k) ⟨t, rfl⟩) D.ns fv) ⟨_, dd.mapOf, ⟨_, H3, I3.tok _, (r.val (.inr k)).getD rz, q3⟩⟩
  | _ => exact (show False from q3).elim
end
theorem Walks.later {prog : Program} {w : World} {A : Around} {I : Addr} {fp wr : List Addr} {n : Nat} {P : Nat → Value → Prop} {St : Nat → Heap → Prop} (W : Walks prog w A I fp wr n P St) (k : Nat) (hk : k ≤ n) :
    Walks prog w A I fp wr (n - k) (fun i v => P (k + i) v) (fun i h => St (k + i) h) where
  sub := W.sub
  frame := fun i h h' st q => W.frame _ h h' st q
  item := fun i s Q E hi st hQ => W.item (k + i) s Q E (by omega) st fun v h' tk p st' kp => hQ v h' tk p st' kp
  done := fun s Q E st hQ => W.done s Q E (by
    have e : k + (n - k) = n := by omega
    rw [e] at st
    exact st) hQ
  self := fun i s Q E st hQ => W.self _ s Q E st hQ
section
variable {X : Cx} {t1 t2 : Expr} {g1 g2 : TG} {k : Nat} {pos ps : Pos}
def gStar (K : PySem.W.Frag) (g1 g2 : TG) : TG := fun v σ H Q => ∃ a x xs, v = .ref a ∧ SqL K H a (x :: xs) ∧ ∀ p, H p = none → g1 x σ (upd H p (.lst xs)) fun σ1 H1 => g2 (.ref p) σ1 H1 Q
theorem pg_star (hc : X.calm = true) (P1 : PG X t1 g1) (P2 : PG X t2 g2) (he : assignEach [t1, .Starred t2 ps] X.env = [(false, assign t1 X.env), (true, assign t2 X.env)] := by rfl) : PG X (.Tuple [t1, .Starred t2 ps] k pos) (gStar X.K g1 g2) := by
  intro pins s σ H v u Q I r hw
  obtain ⟨a, x, xs, e1, hq, hw⟩ := hw
  subst e1
  cases r
  obtain ⟨its, rv, pl, hz⟩ := I.list hq
  have ht := pl.isList
  cases rv with
  | cons rx rr =>
  rename_i u1 us
  rw [assign_Tuple]
  refine wpAny_bind (wpAny_standAt ?_)
  unfold unpack
  rw [he]
  show wpAny _ _ (holding [.ref a] (unpackItems (.ref a) 2 (some 1)) >>= fun vs => assignInOrder [assign t1 X.env, assign t2 X.env] vs) _ _ s
  refine wpAny_bind (wpAny_holding ?_)
  unfold unpackItems notIterableAtAll
  refine wpAny_bind (wpAny_bind (wpAny_specialOf ht.typeIs F.slot_list_iter.lookup (wpAny_pure ?_)))
  rw [if_neg (by simp)]
  show wpAny _ _ (holding [.ref a] (pyIter (.ref a)) >>= _) _ _ s
  refine wpAny_bind (wpAny_holding (wpAny_pyIter_list ht ?_))
  generalize eh0 : s.heap.push { cls := .type "list_iterator", data := .fields #[.ref a, .int 0 0] } = h0
  have k0 : ∀ b o, s.heap.get? b = some o → h0.get? b = some o := fun b o e => by rw [← eh0]; exact Heap.get?_push_of_some _ e
  have i0 : h0.IsListIter s.heap.objs.size a 0 := by rw [← eh0]; exact ⟨_, Heap.get?_push_size _ rfl, rfl, rfl⟩
  have ne : a ≠ s.heap.objs.size := Nat.ne_of_lt pl.lt
  have z0 : s.heap.objs.size < h0.objs.size := by
    obtain ⟨_, e, _⟩ := i0
    exact Heap.lt_size e
  clear eh0
  show wpAny _ _ (holding [.ref s.heap.objs.size] (draw (.ref s.heap.objs.size) 1) >>= _) _ _ _
  refine wpAny_bind (wpAny_holding ?_)
  unfold draw
  refine wpAny_bind (wpAny_pyNext_list_item i0 (ht.at fun o e => k0 _ _ e) (x := u1) (by simp) fun h1 i1 b1 => wpAny_bind (wpAny_holding ?_))
  unfold draw
  refine wpAny_pure (wpAny_pure ?_)
  rw [if_neg (by simp)]
  have W := Walks.later (Walks.list (prog := X.prog) (w := X.w) (A := X.A.in1) (I.ok.hd hc) s.heap.objs.size a ne (u1 :: us).toArray) 1 (by simp)
  have t1' : h1.IsList a (u1 :: us).toArray := (ht.at fun o e => k0 _ _ e).extBut b1.extBut ne
  refine wpAny_bind (wpAny_holding (wpAny_collect_iter (T := "list_iterator") (.inr (.inr (.inl rfl))) W.toS (fun i s' st => st.1.typeIs) ⟨i1, t1'⟩ ?_ (by simp) (fun s2 acc mv io => ?_) ?_))
  · intro b hb
    have hb' : b = s.heap.objs.size ∨ b = a := by simpa using hb
    have z1 : h1.objs.size = h0.objs.size := b1.1
    show b < h1.objs.size
    rw [z1]
    rcases hb' with rfl | rfl
    · exact z0
    · exact Nat.lt_trans pl.lt z0
  · have ea : acc.toList = us := by
      obtain ⟨e1, e2⟩ := io
      have e1 : acc.size = us.length := by simpa using e1
      refine List.ext_getElem? fun j => ?_
      by_cases hj : j < us.length
      · have hj' : j < acc.size := by omega
        have e3 := e2 j acc[j] (by simp [hj'])
        have e4 : us[j]? = some acc[j] := by
          have q : (u1 :: us).toArray[1 + j]? = us[j]? := by
            rw [List.getElem?_toArray, Nat.add_comm]
            rfl
          rw [← q]
          exact e3
        rw [e4]
        simp [hj']
      · rw [List.getElem?_eq_none (by simp; omega), List.getElem?_eq_none (by omega)]
    rw [ea]
    show wpAny _ _ (if us.length < 0 then _ else _) _ _ _
    rw [if_neg (by omega)]
    obtain ⟨h2, g2', d2, tk2, os2⟩ := s2
    obtain ⟨m1, m2, m3, m4, _⟩ := mv
    cases (show g2' = s.gens from m2)
    cases (show d2 = s.drawn from m3)
    cases (show os2 = s.os from m4)
    have I2 : Inv X pins σ H { s with heap := h2, toks := tk2 } := I.kept fun b o e => m1 b o (fun hm => by
      have q : b = s.heap.objs.size := by simpa using hm
      exact absurd (Heap.lt_size e) (by rw [q]; exact Nat.lt_irrefl _)) (b1.extBut _ _ (Nat.ne_of_lt (Heap.lt_size e)) (k0 _ _ e))
    have hl : xs.length ≤ sizeLine := Nat.le_trans (Nat.le_succ _) hz
    have eu : us.take (us.length - 0) = us := List.take_length
    have ed : us.drop (us.length - 0) = [] := List.drop_length
    show wpAny _ _ (newList (us.take (us.length - 0)) >>= fun l => pure (([u1] ++ [l]) ++ us.drop (us.length - 0))) _ _ _
    rw [eu, ed]
    refine wpAny_bind (wpAny_newObj_type (wpAny_pure ?_) (by
      show us.toArray.size ≤ sizeLine
      rw [List.size_toArray, ← rr.length]
      exact hl))
    have hf : H h2.objs.size = none := I2.hok.fresh (Nat.le_refl _)
    have I3 : Inv X pins σ (upd H h2.objs.size (.lst xs)) { s with heap := h2.push { cls := .type "list", data := .seq us.toArray }, toks := tk2 } :=
      I2.laid (t' := tk2) (fun b u e => Heap.get?_push_of_some _ e) (Nat.le_refl _) ⟨hl, us, 0, rr, Heap.get?_push_size _ rfl⟩
    refine assignInOrder_cons (thn (P1 pins _ σ _ x u1 _ I3 rx (hw _ hf)) fun _ s4 ⟨σ4, H4, I4, q4⟩ => ?_)
    exact assignInOrder_cons (thn (P2 pins _ σ4 _ (.ref h2.objs.size) _ _ I4 rfl q4) fun _ s5 ⟨σ5, H5, I5, q5⟩ => assignInOrder_nil ⟨σ5, H5, I5, q5⟩)
  · have hz' : (x :: xs).length ≤ sizeLine := hz
    have hl : xs.length = us.length := rr.length
    simp at hz' ⊢
    omega
end
end L2
set_option Elab.async false
set_option linter.all false
set_option maxRecDepth 100000
set_option maxHeartbeats 1000000
namespace Tm
open PySem L2 TL
def numS (i : Int) : Str := Str.ofString (toString i)
theorem tl_numS_pos {i : Int} (h : 0 ≤ i) : tl (numS i) = numL i.natAbs := by
  obtain ⟨n, rfl⟩ := Int.eq_ofNat_of_zero_le h
  exact tl_num n
theorem tl_numS_neg {i : Int} (h : i < 0) : tl (numS i) = 45 :: numL i.natAbs := by
  obtain ⟨n, rfl⟩ := Int.eq_negSucc_of_lt_zero h
  have e : toString (Int.negSucc n) = "-" ++ toString ((n + 1 : Nat) : Int) := rfl
  unfold numS
  rw [e, tl_ofString, String.toList_append, List.map_append, ← tl_ofString, ← tl_ofString, tl_num]
  rfl
theorem figs {i : Int} (h : numOk i) : tl (Txt.removeprefix (numS i) "-") = numL i.natAbs := by
  have ey : tl (Str.ofString "-") = [45] := by decide +kernel
  have ly : (Str.ofString "-").length = 1 := by decide +kernel
  rw [StrLaws.removeprefix_eq]
  by_cases c : 0 ≤ i
  · rw [if_neg]
    · exact tl_numS_pos c
    · intro z
      have z2 := (Bool.and_eq_true_iff.mp z).2
      rw [StrLaws.subAt_eq, ly] at z2
      have e : ((tl (numS i)).drop 0).take 1 = tl (Str.ofString "-") := eq_of_beq z2
      rw [ey, List.drop_zero, tl_numS_pos c] at e
      have q := numL_free (n := i.natAbs) (s := 45) (by omega)
      cases hn : numL i.natAbs with
      | nil => exact numL_ne _ hn
      | cons a r =>
        rw [hn] at e q
        have : a = 45 := by simpa using e
        exact q (by simp [this])
  · have t := tl_numS_neg (i := i) (by omega)
    have lx : (numS i).length = (numL i.natAbs).length + 1 := by rw [len_tl, t, List.length_cons]
    rw [if_pos]
    · rw [ly]
      show (List.take _ (List.drop 1 (tl (numS i)))) = _
      rw [t, lx]
      exact List.take_length
    · refine Bool.and_eq_true_iff.mpr ⟨decide_eq_true (by rw [ly, lx]; omega), ?_⟩
      rw [StrLaws.subAt_eq, ly]
      show (((tl (numS i)).drop 0).take 1 == tl (Str.ofString "-")) = true
      rw [t, ey]
      rfl
theorem figs_len {i : Int} (h : numOk i) : 1 ≤ (numL i.natAbs).length ∧ (numL i.natAbs).length ≤ 5 := by
  constructor
  · cases hn : numL i.natAbs with
    | nil => exact absurd hn (numL_ne _)
    | cons a r => simp
  · exact numL_len (by decide) (by unfold numOk at h; show i.natAbs < 100000; omega)
theorem numS_len {i : Int} (h : numOk i) : (numS i).length ≤ 6 := by
  rw [len_tl]
  have := (figs_len h).2
  by_cases c : 0 ≤ i
  · rw [tl_numS_pos c]; omega
  · rw [tl_numS_neg (by omega), List.length_cons]; omega
theorem num_signs {i : Int} : ∀ c ∈ tl (numS i), c = 45 ∨ (48 ≤ c ∧ c ≤ 57) := by
  intro c hc
  by_cases h : 0 ≤ i
  · rw [tl_numS_pos h] at hc
    exact .inr (numL_digits _ c hc)
  · rw [tl_numS_neg (by omega)] at hc
    rcases List.mem_cons.mp hc with q | q
    · exact .inl q
    · exact .inr (numL_digits _ c q)
def Rw.word : Rw → Str
  | .put _ _ => "put"
  | .move _ _ => "move"
  | .add _ _ _ => "add"
  | .take _ _ _ => "take"
  | .less _ _ _ => "less"
  | .same _ _ _ => "same"
  | .is_ _ _ => "is"
  | .get _ _ _ => "get"
  | .set _ _ _ => "set"
  | .narrow _ _ _ => "narrow"
  | .fewer _ _ _ => "fewer"
  | .gate _ _ _ => "gate"
  | .enter _ => "enter"
  | .room _ => "room"
  | .shut _ => "shut"
  | .say _ => "say"
  | .go _ => "go"
  | .if_ _ _ => "if"
  | .end_ => "end"
def Rw.args : Rw → List V
  | .put r n => [.int r, .int n]
  | .move r s => [.int r, .int s]
  | .add r s t => [.int r, .int s, .int t]
  | .take r s t => [.int r, .int s, .int t]
  | .less r s t => [.int r, .int s, .int t]
  | .same r s t => [.int r, .int s, .int t]
  | .is_ r s => [.int r, .int s]
  | .get r s far => [.int r, .int s, .int far]
  | .set s far t => [.int s, .int far, .int t]
  | .narrow r s t => [.int r, .int s, .int t]
  | .fewer r s x => [.int r, .int s, .str x]
  | .gate r s row => [.int r, .int s, .int row]
  | .enter s => [.int s]
  | .room r => [.int r]
  | .shut s => [.int s]
  | .say s => [.int s]
  | .go row => [.int row]
  | .if_ s row => [.int s, .int row]
  | .end_  => []
def Rw.kinds : Rw → List Str
  | .put _ _ => ["box", "number"]
  | .move _ _ => ["box", "box"]
  | .add _ _ _ => ["box", "box", "box"]
  | .take _ _ _ => ["box", "box", "box"]
  | .less _ _ _ => ["box", "box", "box"]
  | .same _ _ _ => ["box", "box", "box"]
  | .is_ _ _ => ["box", "box"]
  | .get _ _ _ => ["box", "box", "far"]
  | .set _ _ _ => ["box", "far", "box"]
  | .narrow _ _ _ => ["box", "box", "box"]
  | .fewer _ _ _ => ["box", "box", "rights"]
  | .gate _ _ _ => ["box", "box", "row or end"]
  | .enter _ => ["box"]
  | .room _ => ["box"]
  | .shut _ => ["box"]
  | .say _ => ["box"]
  | .go _ => ["row"]
  | .if_ _ _ => ["box", "row"]
  | .end_ => []
theorem Rw.vals_eq : ∀ x : Rw, x.vals = .str x.word :: x.args
  | .put _ _ => rfl
  | .move _ _ => rfl
  | .add _ _ _ => rfl
  | .take _ _ _ => rfl
  | .less _ _ _ => rfl
  | .same _ _ _ => rfl
  | .is_ _ _ => rfl
  | .get _ _ _ => rfl
  | .set _ _ _ => rfl
  | .narrow _ _ _ => rfl
  | .fewer _ _ _ => rfl
  | .gate _ _ _ => rfl
  | .enter _ => rfl
  | .room _ => rfl
  | .shut _ => rfl
  | .say _ => rfl
  | .go _ => rfl
  | .if_ _ _ => rfl
  | .end_ => rfl
def wordOk (z : Str) : Prop := z.length ≤ 6 ∧ ∀ c ∈ tl z, 97 ≤ c ∧ c ≤ 122
def valOk (v : V) : Prop := (∃ i, v = .int i ∧ numOk i) ∨ ∃ z, v = .str z ∧ wordOk z
def AllV (P : V → Prop) : List V → Prop
  | [] => True
  | v :: r => P v ∧ AllV P r
theorem AllV.mem {P : V → Prop} : ∀ {l : List V}, AllV P l → ∀ v ∈ l, P v
  | [], _, _, h => absurd h (by simp)
  | w :: r, ⟨a, b⟩, v, h => by
    rcases List.mem_cons.mp h with q | q
    · rw [q]; exact a
    · exact b.mem v q
theorem ok_box {r : Int} (h : box r) : valOk (.int r) := .inl ⟨r, rfl, by unfold box at h; unfold numOk; omega⟩
theorem ok_num {r : Int} (h : numOk r) : valOk (.int r) := .inl ⟨r, rfl, h⟩
theorem ok_far {r : Int} (h : -63 ≤ r ∧ r ≤ 63) : valOk (.int r) := .inl ⟨r, rfl, by unfold numOk; omega⟩
theorem ok_row' {r m : Int} (hm : m ≤ 1000) (h : 0 ≤ r ∧ r ≤ m) : valOk (.int r) := .inl ⟨r, rfl, by unfold numOk; omega⟩
theorem ok_rts {z : Str} (h : RightsOk z) : valOk (.str z) := .inr ⟨z, rfl, by
  have hl := h.length_le
  rw [len_tl]
  show (tl z).length ≤ 6
  exact Nat.le_trans hl (by decide), fun c hc => by
  have q := h.subset hc
  simp at q
  omega⟩
theorem args_ok {rows : Int} (hr : rows ≤ 1000) : ∀ x : Rw, ROk rows x → AllV valOk x.args
  | .put _ _, h => ⟨ok_box h.1, ok_num h.2, trivial⟩
  | .move _ _, h => ⟨ok_box h.1, ok_box h.2, trivial⟩
  | .add _ _ _, h => ⟨ok_box h.1, ok_box h.2.1, ok_box h.2.2, trivial⟩
  | .take _ _ _, h => ⟨ok_box h.1, ok_box h.2.1, ok_box h.2.2, trivial⟩
  | .less _ _ _, h => ⟨ok_box h.1, ok_box h.2.1, ok_box h.2.2, trivial⟩
  | .same _ _ _, h => ⟨ok_box h.1, ok_box h.2.1, ok_box h.2.2, trivial⟩
  | .is_ _ _, h => ⟨ok_box h.1, ok_box h.2, trivial⟩
  | .get _ _ _, h => ⟨ok_box h.1, ok_box h.2.1, ok_far h.2.2, trivial⟩
  | .set _ _ _, h => ⟨ok_box h.1, ok_far h.2.1, ok_box h.2.2, trivial⟩
  | .narrow _ _ _, h => ⟨ok_box h.1, ok_box h.2.1, ok_box h.2.2, trivial⟩
  | .fewer _ _ _, h => ⟨ok_box h.1, ok_box h.2.1, ok_rts h.2.2, trivial⟩
  | .gate _ _ _, h => ⟨ok_box h.1, ok_box h.2.1, ok_row' hr h.2.2, trivial⟩
  | .enter _, h => ⟨ok_box h, trivial⟩
  | .room _, h => ⟨ok_box h, trivial⟩
  | .shut _, h => ⟨ok_box h, trivial⟩
  | .say _, h => ⟨ok_box h, trivial⟩
  | .go _, h => ⟨ok_row' hr ⟨h.1, Int.le_of_lt h.2⟩, trivial⟩
  | .if_ _ _, h => ⟨ok_box h.1, ok_row' hr ⟨h.2.1, Int.le_of_lt h.2.2⟩, trivial⟩
  | .end_, _ => trivial
def wordB (z : Str) : Bool := decide (z.length ≤ 6) && (tl z).all (fun c => decide (97 ≤ c ∧ c ≤ 122)) && decide (z ≠ Str.ofString "")
theorem wk (z : Str) (h : wordB z = true) : wordOk z ∧ z ≠ Str.ofString "" := by
  unfold wordB at h
  obtain ⟨h1, h2⟩ := Bool.and_eq_true_iff.mp h
  obtain ⟨h3, h4⟩ := Bool.and_eq_true_iff.mp h1
  exact ⟨⟨of_decide_eq_true h3, fun c hc => of_decide_eq_true (List.all_eq_true.mp h4 c hc)⟩, of_decide_eq_true h2⟩
theorem word_ok : ∀ x : Rw, wordOk x.word ∧ x.word ≠ Str.ofString ""
  | .put _ _ => wk "put" (by decide +kernel)
  | .move _ _ => wk "move" (by decide +kernel)
  | .add _ _ _ => wk "add" (by decide +kernel)
  | .take _ _ _ => wk "take" (by decide +kernel)
  | .less _ _ _ => wk "less" (by decide +kernel)
  | .same _ _ _ => wk "same" (by decide +kernel)
  | .is_ _ _ => wk "is" (by decide +kernel)
  | .get _ _ _ => wk "get" (by decide +kernel)
  | .set _ _ _ => wk "set" (by decide +kernel)
  | .narrow _ _ _ => wk "narrow" (by decide +kernel)
  | .fewer _ _ _ => wk "fewer" (by decide +kernel)
  | .gate _ _ _ => wk "gate" (by decide +kernel)
  | .enter _ => wk "enter" (by decide +kernel)
  | .room _ => wk "room" (by decide +kernel)
  | .shut _ => wk "shut" (by decide +kernel)
  | .say _ => wk "say" (by decide +kernel)
  | .go _ => wk "go" (by decide +kernel)
  | .if_ _ _ => wk "if" (by decide +kernel)
  | .end_ => wk "end" (by decide +kernel)
theorem vals_ok {rows : Int} (hr : rows ≤ 1000) (x : Rw) (h : ROk rows x) : ∀ v ∈ x.vals, valOk v := by
  rw [x.vals_eq]
  intro v hv
  rcases List.mem_cons.mp hv with q | q
  · rw [q]; exact .inr ⟨_, rfl, (word_ok x).1⟩
  · exact (args_ok hr x h).mem v q
def wv : V → Str
  | .int i => numS i
  | .str z => if z = Str.ofString "" then "-" else z
  | _ => ""
def wRow (x : Rw) : Str := Txt.join " " (x.vals.map wv)
def wProg (xs : List Rw) : Str := Txt.join "\n" (xs.map wRow)
theorem wv_ok {v : V} (h : valOk v) : tl (wv v) ≠ [] ∧ (tl (wv v)).length ≤ 6 ∧ ∀ c ∈ tl (wv v), c = 45 ∨ (48 ≤ c ∧ c ≤ 57) ∨ (97 ≤ c ∧ c ≤ 122) := by
  rcases h with ⟨i, rfl, h⟩ | ⟨z, rfl, h1, h2⟩
  · refine ⟨?_, ?_, ?_⟩
    · show tl (numS i) ≠ []
      by_cases c : 0 ≤ i
      · rw [tl_numS_pos c]; exact numL_ne _
      · rw [tl_numS_neg (by omega)]; simp
    · have := numS_len h
      rw [len_tl] at this
      exact this
    · intro c hc
      rcases num_signs c hc with q | q
      · exact .inl q
      · exact .inr (.inl q)
  · show tl (if z = Str.ofString "" then Str.ofString "-" else z) ≠ [] ∧ _
    by_cases c : z = Str.ofString ""
    · have e : wv (.str z) = Str.ofString "-" := if_pos c
      rw [e, if_pos c]
      decide +kernel
    · have e : wv (.str z) = z := if_neg c
      rw [e, if_neg c]
      refine ⟨fun q => c (ext_tl (by rw [q]; decide +kernel)), by rw [← len_tl]; exact h1, fun c hc => .inr (.inr (h2 c hc))⟩
theorem mem_joinL {S : List Nat} : ∀ {ps : List (List Nat)} {c : Nat}, c ∈ joinL S ps → c ∈ S ∨ ∃ p ∈ ps, c ∈ p
  | [], _, h => absurd h (by unfold joinL; simp)
  | [p], c, h => .inr ⟨p, by simp, h⟩
  | p :: q :: r, c, h => by
    have h : c ∈ p ++ (S ++ joinL S (q :: r)) := h
    rcases List.mem_append.mp h with z | z
    · exact .inr ⟨p, by simp, z⟩
    · rcases List.mem_append.mp z with z | z
      · exact .inl z
      · rcases mem_joinL z with z | ⟨y, hy, z⟩
        · exact .inl z
        · exact .inr ⟨y, List.mem_cons_of_mem _ hy, z⟩
theorem tl_blank : tl (Str.ofString " ") = [32] := by decide +kernel
theorem tl_line : tl (Str.ofString "\n") = [10] := by decide +kernel
theorem tl_wRow (x : Rw) : tl (wRow x) = joinL [32] ((x.vals.map wv).map tl) := by
  unfold wRow
  rw [join_eq, tl_join, tl_blank]
theorem len_joinL {S : List Nat} {m : Nat} : ∀ {ps : List (List Nat)}, (∀ p ∈ ps, p.length ≤ m) → (joinL S ps).length ≤ ps.length * (m + S.length)
  | [], _ => by simp [joinL]
  | [p], h => by
    have := h p (by simp)
    show p.length ≤ 1 * (m + S.length)
    omega
  | p :: q :: r, h => by
    have h1 := h p (by simp)
    have h2 := len_joinL (S := S) (m := m) (ps := q :: r) fun z hz => h z (List.mem_cons_of_mem _ hz)
    show (p ++ (S ++ joinL S (q :: r))).length ≤ ((q :: r).length + 1) * (m + S.length)
    rw [List.length_append, List.length_append, Nat.succ_mul]
    omega
theorem vals_len : ∀ x : Rw, x.vals.length ≤ 4
  | .put _ _ => (by show _ ≤ 4; simp only [Rw.vals, List.length_cons, List.length_nil]; omega)
  | .move _ _ => (by show _ ≤ 4; simp only [Rw.vals, List.length_cons, List.length_nil]; omega)
  | .add _ _ _ => (by show _ ≤ 4; simp only [Rw.vals, List.length_cons, List.length_nil]; omega)
  | .take _ _ _ => (by show _ ≤ 4; simp only [Rw.vals, List.length_cons, List.length_nil]; omega)
  | .less _ _ _ => (by show _ ≤ 4; simp only [Rw.vals, List.length_cons, List.length_nil]; omega)
  | .same _ _ _ => (by show _ ≤ 4; simp only [Rw.vals, List.length_cons, List.length_nil]; omega)
  | .is_ _ _ => (by show _ ≤ 4; simp only [Rw.vals, List.length_cons, List.length_nil]; omega)
  | .get _ _ _ => (by show _ ≤ 4; simp only [Rw.vals, List.length_cons, List.length_nil]; omega)
  | .set _ _ _ => (by show _ ≤ 4; simp only [Rw.vals, List.length_cons, List.length_nil]; omega)
  | .narrow _ _ _ => (by show _ ≤ 4; simp only [Rw.vals, List.length_cons, List.length_nil]; omega)
  | .fewer _ _ _ => (by show _ ≤ 4; simp only [Rw.vals, List.length_cons, List.length_nil]; omega)
  | .gate _ _ _ => (by show _ ≤ 4; simp only [Rw.vals, List.length_cons, List.length_nil]; omega)
  | .enter _ => (by show _ ≤ 4; simp only [Rw.vals, List.length_cons, List.length_nil]; omega)
  | .room _ => (by show _ ≤ 4; simp only [Rw.vals, List.length_cons, List.length_nil]; omega)
  | .shut _ => (by show _ ≤ 4; simp only [Rw.vals, List.length_cons, List.length_nil]; omega)
  | .say _ => (by show _ ≤ 4; simp only [Rw.vals, List.length_cons, List.length_nil]; omega)
  | .go _ => (by show _ ≤ 4; simp only [Rw.vals, List.length_cons, List.length_nil]; omega)
  | .if_ _ _ => (by show _ ≤ 4; simp only [Rw.vals, List.length_cons, List.length_nil]; omega)
  | .end_ => (by show _ ≤ 4; simp only [Rw.vals, List.length_cons, List.length_nil]; omega)
theorem row_len {rows : Int} (hr : rows ≤ 1000) (x : Rw) (h : ROk rows x) : (tl (wRow x)).length ≤ 28 := by
  rw [tl_wRow]
  have q := len_joinL (S := [32]) (m := 6) (ps := (x.vals.map wv).map tl) fun p hp => by
    rw [List.map_map] at hp
    obtain ⟨v, hv, rfl⟩ := List.mem_map.mp hp
    exact (wv_ok (vals_ok hr x h v hv)).2.1
  have l := vals_len x
  rw [List.length_map, List.length_map] at q
  have : x.vals.length * (6 + [32].length) ≤ 4 * 7 := Nat.mul_le_mul l (by decide)
  omega
theorem prog_len {rows : Int} (hr : rows ≤ 1000) (xs : List Rw) (h : ∀ x ∈ xs, ROk rows x) : (tl (wProg xs)).length ≤ xs.length * 29 := by
  unfold wProg
  rw [join_eq, tl_join, tl_line]
  have q := len_joinL (S := [10]) (m := 28) (ps := (xs.map wRow).map tl) fun p hp => by
    rw [List.map_map] at hp
    obtain ⟨v, hv, rfl⟩ := List.mem_map.mp hp
    exact row_len hr v (h v hv)
  rw [List.length_map, List.length_map] at q
  exact q
end Tm
set_option Elab.async false
set_option linter.all false
set_option maxRecDepth 100000
set_option maxHeartbeats 1000000
set_option pp.maxSteps 600
set_option pp.deepTerms false
namespace Tm
open PySem L2
theorem pair_app {α β : Type} {R : α → β → Prop} : ∀ {l₁ : List α} {l₂ : List β} {m₁ : List α} {m₂ : List β}, Paired R l₁ l₂ → Paired R m₁ m₂ → Paired R (l₁ ++ m₁) (l₂ ++ m₂)
  | _, _, _, _, .nil, h => h
  | _, _, _, _, .cons a b, h => .cons a (pair_app b h)
def valueB (v : V) (k : Str) (rows : Int) : Bool :=
  if k = "box" then wholeB v 0 7 else if k = "number" then wholeB v (-10000) 9999 else if k = "far" then wholeB v (-63) 63 else if k = "rights" then rightsB v else if k = "row" then wholeB v 0 (rows - 1) else wholeB v 0 rows
structure Gc (mg : Str → Option Value) : Prop where
  MOST_ROWS : ∃ t, mg "MOST_ROWS" = some (.int 60 t)
  BOXES : ∃ t, mg "BOXES" = some (.int 8 t)
  FAR : ∃ t, mg "FAR" = some (.int 63 t)
def spIsValue : Sp := fun vs H Q _ => ∃ (v : V) (k : Str) (rows : Int), vs = [v, .str k, .int rows] ∧ Typed H v ∧ ∀ H', Same H H' → Q (.bl (valueB v k rows)) H'
def shapesL : List (Str × List Str) := [("put", ["box", "number"]), ("move", ["box", "box"]), ("add", ["box", "box", "box"]), ("take", ["box", "box", "box"]), ("less", ["box", "box", "box"]), ("same", ["box", "box", "box"]), ("is", ["box", "box"]),
  ("get", ["box", "box", "far"]), ("set", ["box", "far", "box"]), ("narrow", ["box", "box", "box"]), ("fewer", ["box", "box", "rights"]), ("gate", ["box", "box", "row or end"]), ("enter", ["box"]), ("room", ["box"]), ("shut", ["box"]), ("say", ["box"]), ("go", ["row"]), ("if", ["box", "row"]), ("end", [])]
def ShapesKV (K : PySem.W.Frag) (kvs : List (Key × V)) : Prop := Paired (fun (kv : Key × V) (e : Str × List Str) => kv.1 = .inr e.1 ∧ ∃ t, kv.2 = .ref t ∧ ∀ H, SqT K H t (e.2.map V.str)) kvs shapesL
structure ShapesAt (w : World) (K : PySem.W.Frag) (mg : Str → Option Value) : Prop where
  ex : ∃ a kvs, KDict w K a kvs ∧ mg "SHAPES" = some (.ref a) ∧ ShapesKV K kvs
theorem look_shapes {K : PySem.W.Frag} {x : Str} {ks : List Str} : ∀ {kvs : List (Key × V)} {l : List (Str × List Str)}, Paired (fun (kv : Key × V) (e : Str × List Str) => kv.1 = .inr e.1 ∧ ∃ t, kv.2 = .ref t ∧ ∀ H, SqT K H t (e.2.map V.str)) kvs l → l.lookup x = some ks →
    ∃ t, valV kvs (.inr x) = some (.ref t) ∧ ∀ H, SqT K H t (ks.map V.str)
  | _, _, .nil, h => by cases h
  | _, _, .cons (a := kv) (b := e) (l₁ := kvs) (l₂ := l) r q, h => by
    obtain ⟨e1, t, e2, e3⟩ := r
    obtain ⟨k, v⟩ := kv
    obtain ⟨y, ks'⟩ := e
    cases e1
    cases e2
    by_cases c : x = y
    · subst c
      rw [List.lookup_cons_self] at h
      cases h
      exact ⟨t, valV_pos rfl, e3⟩
    · have hb : (x == y) = false := beq_eq_false_iff_ne.mpr c
      rw [List.lookup_cons, hb] at h
      obtain ⟨t', e4, e5⟩ := look_shapes q h
      exact ⟨t', by rw [valV_neg (fun z => c (Sum.inr.inj z).symm)]; exact e4, e5⟩
theorem shapes_row : ∀ x : Rw, shapesL.lookup x.word = some x.kinds
  | .put _ _ => (by decide +kernel : shapesL.lookup (Str.ofString "put") = some (["box", "number"] : List Str))
  | .move _ _ => (by decide +kernel : shapesL.lookup (Str.ofString "move") = some (["box", "box"] : List Str))
  | .add _ _ _ => (by decide +kernel : shapesL.lookup (Str.ofString "add") = some (["box", "box", "box"] : List Str))
  | .take _ _ _ => (by decide +kernel : shapesL.lookup (Str.ofString "take") = some (["box", "box", "box"] : List Str))
  | .less _ _ _ => (by decide +kernel : shapesL.lookup (Str.ofString "less") = some (["box", "box", "box"] : List Str))
  | .same _ _ _ => (by decide +kernel : shapesL.lookup (Str.ofString "same") = some (["box", "box", "box"] : List Str))
  | .is_ _ _ => (by decide +kernel : shapesL.lookup (Str.ofString "is") = some (["box", "box"] : List Str))
  | .get _ _ _ => (by decide +kernel : shapesL.lookup (Str.ofString "get") = some (["box", "box", "far"] : List Str))
  | .set _ _ _ => (by decide +kernel : shapesL.lookup (Str.ofString "set") = some (["box", "far", "box"] : List Str))
  | .narrow _ _ _ => (by decide +kernel : shapesL.lookup (Str.ofString "narrow") = some (["box", "box", "box"] : List Str))
  | .fewer _ _ _ => (by decide +kernel : shapesL.lookup (Str.ofString "fewer") = some (["box", "box", "rights"] : List Str))
  | .gate _ _ _ => (by decide +kernel : shapesL.lookup (Str.ofString "gate") = some (["box", "box", "row or end"] : List Str))
  | .enter _ => (by decide +kernel : shapesL.lookup (Str.ofString "enter") = some (["box"] : List Str))
  | .room _ => (by decide +kernel : shapesL.lookup (Str.ofString "room") = some (["box"] : List Str))
  | .shut _ => (by decide +kernel : shapesL.lookup (Str.ofString "shut") = some (["box"] : List Str))
  | .say _ => (by decide +kernel : shapesL.lookup (Str.ofString "say") = some (["box"] : List Str))
  | .go _ => (by decide +kernel : shapesL.lookup (Str.ofString "go") = some (["row"] : List Str))
  | .if_ _ _ => (by decide +kernel : shapesL.lookup (Str.ofString "if") = some (["box", "row"] : List Str))
  | .end_ => (by decide +kernel : shapesL.lookup (Str.ofString "end") = some ([] : List Str))
abbrev s_is_value : Stmt := top 22
abbrev N_is_value : List Str := ["value", "kind", "rows"]
abbrev P_is_value : List Str := ["value", "kind", "rows"]
theorem sc_is_value : FnScope N_is_value P_is_value (defScope s_is_value) := ⟨rfl, rfl, rfl, by decide +kernel, rfl, by decide +kernel, by decide +kernel⟩
abbrev s_is_row : Stmt := top 23
abbrev N_is_row : List Str := ["row", "rows", "kinds", "values", "value", "kind"]
abbrev P_is_row : List Str := ["row", "rows"]
theorem sc_is_row : FnScope N_is_row P_is_row (defScope s_is_row) := ⟨rfl, rfl, rfl, by decide +kernel, rfl, by decide +kernel, by decide +kernel⟩
abbrev s_first_wrong : Stmt := top 24
abbrev N_first_wrong : List Str := ["rows", "at", "row"]
abbrev P_first_wrong : List Str := ["rows"]
theorem sc_first_wrong : FnScope N_first_wrong P_first_wrong (defScope s_first_wrong) := ⟨rfl, rfl, rfl, by decide +kernel, rfl, by decide +kernel, by decide +kernel⟩
abbrev s_check_program : Stmt := top 25
abbrev N_check_program : List Str := ["program", "wrong"]
abbrev P_check_program : List Str := ["program"]
theorem sc_check_program : FnScope N_check_program P_check_program (defScope s_check_program) := ⟨rfl, rfl, rfl, by decide +kernel, rfl, by decide +kernel, by decide +kernel⟩
section
variable {P : Program} {w : World} {K : PySem.W.Frag} {mg : Str → Option Value} {base : Heap}
theorem dstr {x y : Str} : decide (V.str x = V.str y) = decide (x = y) := decide_eq_decide.mpr ⟨fun h => V.str.inj h, fun h => congrArg V.str h⟩
theorem ok_is_value {f : Addr} {fd : FuncData} (F : Fun K "is_value" "is_value" s_is_value f fd) (G : Gc mg) (D_is_whole : Df P w K mg base 1 "is_whole" P_is_whole [] spWhole) (D_is_number : Df P w K mg base 2 "is_number" P_is_number [] spNumber)
    (D_is_rights : Df P w K mg base 2 "is_rights" P_is_rights [] spIsRights) : FnOk P w K mg base CX0 3 f fd P_is_value spIsValue := by
  have sc := sc_is_value
  refine F.ok sc (fun vs H Q E h => ?_) (fun cdv A outer s H vs Q E hr h => ?_)
  · obtain ⟨v, k, rows, rfl, _⟩ := h
    rfl
  obtain ⟨v, kd, rows, rfl, hv, k⟩ := h
  have hu64 := hr.units
  have hs : Same H H := Same.refl H
  unfold valueB at k
  refine ⟨_, ((pss_cons (ps_if (pt_cmpR (oq_eq K hu64) (qv 1) pe_str (nomark _))
  (pss_one (ps_ret (qcall D_is_whole (by first | exact hr | exact hr.mono (by omega)) (pa_cons (qv 0) (pa_cons pe_int (pa_cons (pe_op oq_sub (pe_globI G.BOXES) pe_int) pa_nil))))))
  pss_nil)
  (pss_cons (ps_if (pt_cmpR (oq_eq K hu64) (qv 1) pe_str (nomark _))
  (pss_one (ps_ret (qcall D_is_number (by first | exact hr | exact hr.mono (by omega)) (pa_cons (qv 0) pa_nil))))
  pss_nil)
  (pss_cons (ps_if (pt_cmpR (oq_eq K hu64) (qv 1) pe_str (nomark _))
  (pss_one (ps_ret (qcall D_is_whole (by first | exact hr | exact hr.mono (by omega)) (pa_cons (qv 0) (pa_cons (pe_un un_neg (pe_globI G.FAR)) (pa_cons (pe_globI G.FAR) pa_nil))))))
  pss_nil)
  (pss_cons (ps_if (pt_cmpR (oq_eq K hu64) (qv 1) pe_str (nomark _))
  (pss_one (ps_ret (qcall D_is_rights (by first | exact hr | exact hr.mono (by omega)) (pa_cons (qv 0) pa_nil))))
  pss_nil)
  (pss_cons (ps_if (pt_cmpR (oq_eq K hu64) (qv 1) pe_str (nomark _))
  (pss_one (ps_ret (qcall D_is_whole (by first | exact hr | exact hr.mono (by omega)) (pa_cons (qv 0) (pa_cons pe_int (pa_cons (pe_op oq_sub (qv 2) pe_int) pa_nil))))))
  pss_nil)
  (pss_one (ps_ret (qcall D_is_whole (by first | exact hr | exact hr.mono (by omega)) (pa_cons (qv 0) (pa_cons pe_int (pa_cons (qv 2) pa_nil))))))))))) : PSs _ (_ :: _) _), ?_⟩
  refine ⟨rfl, _, rfl, ?_⟩
  rw [dstr]
  refine ite2 (fun c => ?_) (fun c => ?_)
  · rw [if_pos (of_decide_eq_true c)] at k
    exact ⟨v, 0, 7, rfl, hv, k H hs⟩
  rw [if_neg (fun z => c (decide_eq_true z))] at k
  refine ⟨rfl, _, rfl, ?_⟩
  rw [dstr]
  refine ite2 (fun c => ?_) (fun c => ?_)
  · rw [if_pos (of_decide_eq_true c)] at k
    exact ⟨v, rfl, hv, k H hs⟩
  rw [if_neg (fun z => c (decide_eq_true z))] at k
  refine ⟨rfl, _, rfl, ?_⟩
  rw [dstr]
  refine ite2 (fun c => ?_) (fun c => ?_)
  · rw [if_pos (of_decide_eq_true c)] at k
    exact ⟨_, rfl, v, -63, 63, rfl, hv, k H hs⟩
  rw [if_neg (fun z => c (decide_eq_true z))] at k
  refine ⟨rfl, _, rfl, ?_⟩
  rw [dstr]
  refine ite2 (fun c => ?_) (fun c => ?_)
  · rw [if_pos (of_decide_eq_true c)] at k
    exact ⟨v, rfl, hv, k⟩
  rw [if_neg (fun z => c (decide_eq_true z))] at k
  refine ⟨rfl, _, rfl, ?_⟩
  rw [dstr]
  refine ite2 (fun c => ?_) (fun c => ?_)
  · rw [if_pos (of_decide_eq_true c)] at k
    exact ⟨v, 0, rows - 1, rfl, hv, k H hs⟩
  rw [if_neg (fun z => c (decide_eq_true z))] at k
  exact ⟨v, 0, rows, rfl, hv, k H hs⟩
theorem at0 (a : V) (l : List V) : atI (a :: l) 0 = some a := atI_nat (j := 0) (xs := a :: l) rfl
theorem cut1 (a : V) (l : List V) : cutV (a :: l) (some 1) none = l := by
  have e : HT.sIx (a :: l).length 0 (some 1) = 1 := by
    show (if (1 : Int) < 0 then ((1 : Int) + ((a :: l).length : Int)).toNat else min (1 : Int).toNat (a :: l).length) = 1
    rw [if_neg (by decide), List.length_cons]
    show min 1 (l.length + 1) = 1
    omega
  unfold cutV
  rw [e, HT.sIx_none, List.length_cons]
  show l.take (l.length + 1 - 1) = l
  exact List.take_length
theorem cut1_ne (a : V) (l : List V) : ¬ (HT.sIx (a :: l).length 0 (some 1) = 0 ∧ HT.sIx (a :: l).length (a :: l).length none = (a :: l).length) := by
  have e : HT.sIx (a :: l).length 0 (some 1) = 1 := by
    show (if (1 : Int) < 0 then ((1 : Int) + ((a :: l).length : Int)).toNat else min (1 : Int).toNat (a :: l).length) = 1
    rw [if_neg (by decide), List.length_cons]
    show min 1 (l.length + 1) = 1
    omega
  rw [e]
  intro z
  exact absurd z.1 (by decide)
def Fits (rows : Int) : List V → List Str → Prop
  | [], [] => True
  | v :: vs, k :: ks => valueB v k rows = true ∧ Fits rows vs ks
  | _, _ => False
theorem fit_box {r rows : Int} (h : box r) : valueB (.int r) "box" rows = true := by
  show (if Str.ofString "box" = Str.ofString "box" then wholeB (.int r) 0 7 else _) = true
  rw [if_pos rfl]
  show (decide (0 ≤ r) && decide (r ≤ 7)) = true
  rw [decide_eq_true h.1, decide_eq_true h.2]
  rfl
theorem whole_ok {r l m : Int} (h : l ≤ r ∧ r ≤ m) : wholeB (.int r) l m = true := by
  show (decide (l ≤ r) && decide (r ≤ m)) = true
  rw [decide_eq_true h.1, decide_eq_true h.2]
  rfl
theorem sne {x y : Str} (h : decide (x = y) = false) : ¬ x = y := of_decide_eq_false h
theorem fit_num {r rows : Int} (h : numOk r) : valueB (.int r) "number" rows = true := by
  unfold valueB
  rw [if_neg (sne (by decide +kernel)), if_pos rfl]
  exact whole_ok h
theorem fit_far {r rows : Int} (h : -63 ≤ r ∧ r ≤ 63) : valueB (.int r) "far" rows = true := by
  unfold valueB
  rw [if_neg (sne (by decide +kernel)), if_neg (sne (by decide +kernel)), if_pos rfl]
  exact whole_ok h
theorem fit_rts {z : Str} {rows : Int} (h : RightsOk z) : valueB (.str z) "rights" rows = true := by
  unfold valueB
  rw [if_neg (sne (by decide +kernel)), if_neg (sne (by decide +kernel)), if_neg (sne (by decide +kernel)), if_pos rfl]
  show decide (z = fewerR "ghls" z) = true
  exact decide_eq_true (fewer_self h).symm
theorem fit_row {r rows : Int} (h : 0 ≤ r ∧ r < rows) : valueB (.int r) "row" rows = true := by
  unfold valueB
  rw [if_neg (sne (by decide +kernel)), if_neg (sne (by decide +kernel)), if_neg (sne (by decide +kernel)), if_neg (sne (by decide +kernel)), if_pos rfl]
  exact whole_ok ⟨h.1, by omega⟩
theorem fit_end {r rows : Int} (h : 0 ≤ r ∧ r ≤ rows) : valueB (.int r) "row or end" rows = true := by
  unfold valueB
  rw [if_neg (sne (by decide +kernel)), if_neg (sne (by decide +kernel)), if_neg (sne (by decide +kernel)), if_neg (sne (by decide +kernel)), if_neg (sne (by decide +kernel))]
  exact whole_ok h
theorem fits_row {rows : Int} : ∀ x : Rw, ROk rows x → Fits rows x.args x.kinds
  | .put _ _, h => ⟨fit_box h.1, fit_num h.2, trivial⟩
  | .move _ _, h => ⟨fit_box h.1, fit_box h.2, trivial⟩
  | .add _ _ _, h => ⟨fit_box h.1, fit_box h.2.1, fit_box h.2.2, trivial⟩
  | .take _ _ _, h => ⟨fit_box h.1, fit_box h.2.1, fit_box h.2.2, trivial⟩
  | .less _ _ _, h => ⟨fit_box h.1, fit_box h.2.1, fit_box h.2.2, trivial⟩
  | .same _ _ _, h => ⟨fit_box h.1, fit_box h.2.1, fit_box h.2.2, trivial⟩
  | .is_ _ _, h => ⟨fit_box h.1, fit_box h.2, trivial⟩
  | .get _ _ _, h => ⟨fit_box h.1, fit_box h.2.1, fit_far h.2.2, trivial⟩
  | .set _ _ _, h => ⟨fit_box h.1, fit_far h.2.1, fit_box h.2.2, trivial⟩
  | .narrow _ _ _, h => ⟨fit_box h.1, fit_box h.2.1, fit_box h.2.2, trivial⟩
  | .fewer _ _ _, h => ⟨fit_box h.1, fit_box h.2.1, fit_rts h.2.2, trivial⟩
  | .gate _ _ _, h => ⟨fit_box h.1, fit_box h.2.1, fit_end h.2.2, trivial⟩
  | .enter _, h => ⟨fit_box h, trivial⟩
  | .room _, h => ⟨fit_box h, trivial⟩
  | .shut _, h => ⟨fit_box h, trivial⟩
  | .say _, h => ⟨fit_box h, trivial⟩
  | .go _, h => ⟨fit_row h, trivial⟩
  | .if_ _ _, h => ⟨fit_box h.1, fit_row h.2, trivial⟩
  | .end_, _ => trivial
theorem Fits.length {rows : Int} : ∀ {vs : List V} {ks : List Str}, Fits rows vs ks → vs.length = ks.length
  | [], [], _ => rfl
  | [], _ :: _, h => h.elim
  | _ :: _, [], h => h.elim
  | _ :: vs, _ :: ks, h => congrArg (· + 1) h.2.length
theorem Fits.at {rows : Int} : ∀ {vs : List V} {ks : List Str} {i : Nat} {v : V} {k : V}, Fits rows vs ks → vs[i]? = some v → (ks.map V.str)[i]? = some k → ∃ z, k = .str z ∧ valueB v z rows = true
  | [], _, i, _, _, _, h, _ => by simp at h
  | _ :: _, [], _, _, _, h, _, _ => h.elim
  | v :: vs, k :: ks, 0, _, _, h, h1, h2 => by
    cases h1
    cases h2
    exact ⟨k, rfl, h.1⟩
  | v :: vs, k :: ks, i + 1, _, _, h, h1, h2 => h.2.at (i := i) h1 h2
theorem valOk.typed {H : Hp} {v : V} (h : valOk v) : Typed H v := by
  rcases h with ⟨i, rfl, _⟩ | ⟨z, rfl, _⟩ <;> trivial
def spIsRow : Sp := fun vs H Q _ => ∃ (rv : V) (x : Rw) (rows : Int), vs = [rv, .int rows] ∧ IsR H x rv ∧ ROk rows x ∧ rows ≤ 1000 ∧ ∀ H', Same H H' → Q (.bl true) H'
theorem ok_is_row {f : Addr} {fd : FuncData} (F : Fun K "is_row" "is_row" s_is_row f fd) (T : Tx mg) (S : ShapesAt w K mg) (D_is_value : Df P w K mg base 3 "is_value" P_is_value [] spIsValue) : FnOk P w K mg base CX0 4 f fd P_is_row spIsRow := by
  have sc := sc_is_row
  obtain ⟨sa, kvs, D_SHAPES, M_SHAPES, hkv⟩ := S.ex
  refine F.ok sc (fun vs H Q E h => ?_) (fun cdv A outer s H vs Q E hr h => ?_)
  · obtain ⟨v, k, rows, rfl, _⟩ := h
    rfl
  obtain ⟨rv, x, rows, rfl, ⟨p, rfl, hp⟩, okx, hrows, k⟩ := h
  have hu := hu_of hr
  have hu64 := hr.units
  rw [x.vals_eq] at hp
  obtain ⟨t, ht, hk⟩ := look_shapes hkv (shapes_row x)
  refine ⟨_, ((pss_cons (ps_if (PW.pt (pw_or (pt_not (pt_val (qisi (isi_tuple _) T.isinstance T.tuple (qv 0)))) (pw_or1 (pt_not (pt_truth (qv 0) (by intro _; rfl))))))
  (pss_one (ps_ret pe_bl))
  pss_nil)
  (pss_cons (ps_if (PW.pt (pw_or (pt_not (pt_val (qisi (isi_str _) T.isinstance T.str (pe_ix (iq K hu) (qv 0) pe_int (fun _ _ => rfl))))) (pw_or1 (pt_cmp (pk_notin D_SHAPES M_SHAPES (pe_ix (iq K hu) (qv 0) pe_int (fun _ _ => rfl)))))))
  (pss_one (ps_ret pe_bl))
  pss_nil)
  (pss_cons (ps_set (i := 2) sc.nd rfl (by first | exact Or.inl rfl | exact Or.inr rfl) (pk_get D_SHAPES M_SHAPES (pe_ix (iq K hu) (qv 0) pe_int (fun _ _ => rfl))))
  (pss_cons (ps_set (i := 3) sc.nd rfl (by first | exact Or.inl rfl | exact Or.inr rfl) (pe_slice (sq_tup K) (qv 0) (po_some pe_int) po_none))
  (pss_cons (ps_if (pt_cmpR (oq_ne K hu64) (pe_callB (cq_len K) (by rfl) T.len (by decide +kernel) (pa_cons (qv 3) pa_nil)) (pe_callB (cq_len K) (by rfl) T.len (by decide +kernel) (pa_cons (qv 2) pa_nil)) (nomark _))
  (pss_one (ps_ret pe_bl))
  pss_nil)
  (pss_one (ps_ret (pe_callB (cr_all rfl) (by rfl) T.all (by decide +kernel) (pa_cons (pe_lc (own := [("value", 4), ("kind", 5)]) (g := gTup K 2 (gCons (gName 4) (gCons (gName 5) gNil))) (by rfl) sc.nd ((pi_zip2 true true) (by rfl) T.zip (pa_cons (qv 3) (pa_cons (qv 2) pa_nil))) (blkOk_by (own := [("value", 4), ("kind", 5)]) (N := N_is_row) (sc := defScope s_is_row) (by decide +kernel)) (fun _ _ _ _ _ => (pg_tup (by rfl) (pgs_cons (pg_name (i := 4) sc.nd rfl (by first | exact Or.inl rfl | exact Or.inr rfl)) (pgs_cons (pg_name (i := 5) sc.nd rfl (by first | exact Or.inl rfl | exact Or.inr rfl)) pgs_nil)))) (fun _ _ _ _ _ => pts_nil) (fun _ _ _ _ _ => (qcall D_is_value (by first | exact hr | exact hr.mono (by omega)) (pa_cons (qv 4) (pa_cons (qv 5) (pa_cons (qv 1) pa_nil)))))) pa_nil))))))))) : PSs _ (_ :: _) _), ?_⟩
  have hP := SqT.of (K := K) hp
  refine .inl ⟨_, hp, _, rfl, iteF ⟨true, .inr (.inl ⟨_, hP, rfl⟩), iteF ?_⟩⟩
  refine .inr (.inl ⟨_, _, hP, at0 _ _, _, rfl, iteF (.inr (.inl ⟨_, _, hP, at0 _ _, ?_⟩))⟩)
  have hhas : (valV kvs (.inr x.word)).isSome = true := by rw [ht]; rfl
  refine ⟨_, rfl, ?_⟩
  rw [hhas]
  refine iteF (.inr (.inl ⟨_, _, hP, at0 _ _, ?_⟩))
  show (match valV kvs (.inr x.word) with | some v => _ | none => False)
  rw [ht]
  refine ⟨_, rfl, _, _, rfl, hP, cut1_ne _ _, fun q hq => ?_⟩
  rw [cut1]
  have s1 := same_new hq (.tup x.args)
  have hq1 : upd H q (.tup x.args) q = some (.tup x.args) := upd_same
  generalize upd H q (.tup x.args) = H1 at s1 hq1
  refine .inr (.inl ⟨_, SqT.of hq1, .inr (.inl ⟨_, hk H1, rfl, ?_⟩)⟩)
  have hlen : x.args.length = (x.kinds.map V.str).length := by rw [List.length_map]; exact (fits_row x okx).length
  refine ⟨_, rfl, ?_⟩
  rw [hlen, decide_eq_true rfl]
  refine iteF ?_
  refine ⟨_, _, _, _, rfl, SqT.of hq1, hk H1, fun D hD => ?_⟩
  refine lc_by (n := x.args.length) (fun i H2 => Same H1 H2 ∧ H2 D = some (.lst (List.replicate i (V.bl true)))) ⟨same_new hD _, upd_same⟩ ?_ ?_ ?_ ?_
  · rintro i H2 hi ⟨s2, d2⟩
    exact ⟨_, _, x.args[i], (x.kinds.map V.str)[i]'(by omega), SqT.of (s2 _ _ hq1), hk H2, List.getElem?_eq_getElem hi, List.getElem?_eq_getElem (by omega)⟩
  · rintro H2 ⟨s2, d2⟩
    exact ⟨_, _, SqT.of (s2 _ _ hq1), hk H2, Nat.le_refl _, by omega, .inl rfl⟩
  · rintro i H2 v H2' hi ⟨s2, d2⟩ ⟨T, y, z, rfl, hT, rfl, hy, hz⟩
    have hy := hy _ (SqT.of (s2 _ _ hq1))
    have hz := hz _ (hk H2)
    obtain ⟨kd, rfl, hv⟩ := (fits_row x okx).at hy hz
    have st := same_new hT (.tup [y, .str kd])
    refine ⟨_, _, rfl, SqT.of upd_same, rfl, _, _, rfl, _, _, rfl, rfl, rfl, ?_⟩
    have ty : valOk y := (args_ok hrows x okx).mem y (List.mem_of_getElem? hy)
    refine ⟨y, kd, rows, rfl, ty.typed, fun H3 s3 => ?_⟩
    rw [hv]
    have d3 := s3 _ _ (st _ _ d2)
    refine ⟨_, d3, ?_, fun b o e => ?_, ?_⟩
    · have l4 : x.args.length ≤ 4 := by
        have := vals_len x
        rw [x.vals_eq, List.length_cons] at this
        omega
      rw [List.length_replicate]
      exact small1000 (by omega)
    · rw [upd_ne (ne_of_none e hD)]
      exact s3 _ _ (st _ _ (s2 _ _ e))
    · rw [upd_same, List.replicate_succ']
  · rintro H2 ⟨s2, d2⟩
    refine ⟨D, List.replicate x.args.length true, rfl, SqL.of (by rw [List.map_replicate]; exact d2), ?_⟩
    have e : (List.replicate x.args.length true).all id = true := by simp
    rw [e]
    exact k H2 (s1.trans s2)
def Prg (H : Hp) (xs : List Rw) (v : V) : Prop := ∃ p vs, v = .ref p ∧ H p = some (.tup vs) ∧ Paired (fun v x => IsR H x v) vs xs
def POk (xs : List Rw) : Prop := 1 ≤ xs.length ∧ xs.length ≤ 60 ∧ ∀ x ∈ xs, ROk (xs.length : Int) x
theorem Prg.tups {H H' : Hp} {xs : List Rw} {v : V} (h : Prg H xs v) (t : Tups H H') : Prg H' xs v := by
  obtain ⟨p, vs, e, hp, r⟩ := h
  exact ⟨p, vs, e, t _ _ hp, Paired.mapP r fun _ _ q => q.tups t⟩
def spFirst : Sp := fun vs H Q _ => ∃ (v : V) (xs : List Rw), vs = [v] ∧ Prg H xs v ∧ POk xs ∧ ∀ H', Same H H' → Q .non H'
theorem ok_first_wrong {f : Addr} {fd : FuncData} (F : Fun K "first_wrong" "first_wrong" s_first_wrong f fd) (T : Tx mg) (G : Gc mg) (D_is_row : Df P w K mg base 4 "is_row" P_is_row [] spIsRow) : FnOk P w K mg base CX0 5 f fd P_first_wrong spFirst := by
  have sc := sc_first_wrong
  refine F.ok sc (fun vs H Q E h => ?_) (fun cdv A outer s H vs Q E hr h => ?_)
  · obtain ⟨v, xs, rfl, _⟩ := h
    rfl
  obtain ⟨v, xs, rfl, ⟨p, vs, rfl, hp, r⟩, ⟨n1, n60, hx⟩, k⟩ := h
  have hu := hu_of hr
  have hu64 := hr.units
  have hl := Paired.length r
  refine ⟨_, ((pss_cons (ps_for PassesOwn.never rfl ((pi_enum2 true) (by rfl) T.enumerate (pa_cons (qv 0) pa_nil)) (pg_tup (by rfl) (pgs_cons (pg_name (i := 1) sc.nd rfl (by first | exact Or.inl rfl | exact Or.inr rfl)) (pgs_cons (pg_name (i := 2) sc.nd rfl (by first | exact Or.inl rfl | exact Or.inr rfl)) pgs_nil)))
  (pss_one (ps_if (PW.pt (pw_or (pt_cmpR (oq_eq K hu64) (qv 1) (pe_globI G.MOST_ROWS) (nomark _)) (pw_or1 (pt_not (pt_val (qcall D_is_row (by first | exact hr | exact hr.mono (by omega)) (pa_cons (qv 2) (pa_cons (pe_callB (cq_len K) (by rfl) T.len (by decide +kernel) (pa_cons (qv 0) pa_nil)) pa_nil))))))))
  (pss_one (ps_ret (qv 1)))
  pss_nil)))
  (pss_one (ps_ret pe_non))) : PSs _ (_ :: _) _), ?_⟩
  refine ⟨_, _, rfl, SqT.of hp, ?_⟩
  refine for_by (n := vs.length) (fun i σ H2 => Same H H2 ∧ ∃ a b, σ = [some (.ref p), a, b]) ⟨Same.refl H, _, _, rfl⟩ ?_ ?_ ?_ ?_
  · rintro i σ H2 hi ⟨s2, _⟩
    exact ⟨_, vs[i], SqT.of (s2 _ _ hp), List.getElem?_eq_getElem hi⟩
  · rintro σ H2 ⟨s2, _⟩
    exact ⟨_, SqT.of (s2 _ _ hp), rfl⟩
  · rintro i σ H2 v H2' hi ⟨s2, a, b, rfl⟩ ⟨T', y, rfl, hT, rfl, hy⟩
    have hy := hy _ (SqT.of (s2 _ _ hp))
    have st := same_new hT (.tup [.int (i : Nat), y])
    refine ⟨_, _, rfl, SqT.of upd_same, rfl, _, _, rfl, _, _, rfl, rfl, ?_⟩
    obtain ⟨y', x, e1, e2, ix⟩ := Paired.get2 r hi
    rw [hy] at e1
    cases e1
    have hp3 := st _ _ (s2 _ _ hp)
    have i60 : decide (V.int (i : Nat) = V.int 60) = false := decide_eq_false fun z => by
      have z := V.int.inj z
      omega
    refine ⟨rfl, _, rfl, iteF' i60 ?_⟩
    refine .inr (.inl ⟨_, SqT.of hp3, ?_⟩)
    have okx := hx x (List.mem_of_getElem? e2)
    refine ⟨y, x, _, rfl, (ix.tups (Same.tups s2)).tups (Same.tups st), by rw [hl]; exact okx, by omega, fun H3 s3 => ⟨_, rfl, iteF ?_⟩⟩
    exact ⟨(s2.trans st).trans s3, _, _, rfl⟩
  · rintro σ H2 ⟨s2, _⟩
    exact k H2 s2
theorem ok_check_program {f : Addr} {fd : FuncData} (F : Fun K "check_program" "check_program" s_check_program f fd) (T : Tx mg) (D_first_wrong : Df P w K mg base 5 "first_wrong" P_first_wrong [] spFirst) : FnOk P w K mg base CX0 6 f fd P_check_program spFirst := by
  have sc := sc_check_program
  refine F.ok sc (fun vs H Q E h => ?_) (fun cdv A outer s H vs Q E hr h => ?_)
  · obtain ⟨v, xs, rfl, _⟩ := h
    rfl
  obtain ⟨v, xs, rfl, ⟨p, vs, rfl, hp, r⟩, okp, k⟩ := h
  have hu := hu_of hr
  have hl := Paired.length r
  refine ⟨_, ((pss_cons (ps_if (PW.pt (pw_or (pt_not (pt_val (qisi (isi_tuple _) T.isinstance T.tuple (qv 0)))) (pw_or1 (pt_not (pt_truth (qv 0) (by intro _; rfl))))))
  pss_never
  pss_nil)
  (pss_cons (ps_set (i := 1) sc.nd rfl (by first | exact Or.inl rfl | exact Or.inr rfl) (qcall D_first_wrong (by first | exact hr | exact hr.mono (by omega)) (pa_cons (qv 0) pa_nil)))
  (pss_one (ps_if (pt_cmpR op_notN (qv 1) pe_non (nomark _))
  pss_never
  pss_nil)))) : PSs _ (_ :: _) _), ?_⟩
  have hne : vs.isEmpty = false := by
    cases vs with
    | nil => have := okp.1; rw [← hl] at this; exact absurd this (by simp)
    | cons a l => rfl
  refine .inl ⟨_, hp, _, rfl, iteF ⟨true, .inr (.inl ⟨_, SqT.of hp, by rw [hne]; rfl⟩), iteF ?_⟩⟩
  refine ⟨_, xs, rfl, ⟨p, vs, rfl, hp, r⟩, okp, fun H1 s1 => ?_⟩
  refine ⟨rfl, _, rfl, iteF ?_⟩
  exact k H1 s1
end
end Tm
set_option Elab.async false
set_option linter.all false
set_option maxRecDepth 100000
set_option maxHeartbeats 1000000
set_option pp.maxSteps 600
set_option pp.deepTerms false
namespace Tm
open PySem L2 TL
structure Gn (mg : Str → Option Value) : Prop where
  FIGURES : ∃ t, mg "FIGURES" = some (.str "0123456789" t)
  MOST_FIGURES : ∃ t, mg "MOST_FIGURES" = some (.int 5 t)
  NO_RIGHTS : ∃ t, mg "NO_RIGHTS" = some (.str "-" t)
structure Gnw (mg : Str → Option Value) : Prop where
  NO_RIGHTS : ∃ t, mg "NO_RIGHTS" = some (.str "-" t)
def spWValue : Sp := fun vs H Q _ => ∃ v, vs = [v] ∧ valOk v ∧ Q (.str (wv v)) H
def spWRow : Sp := fun vs H Q _ => ∃ (rv : V) (x : Rw) (rows : Int), vs = [rv] ∧ IsR H x rv ∧ ROk rows x ∧ rows ≤ 1000 ∧ ∀ H', Same H H' → Q (.str (wRow x)) H'
def spWritten : Sp := fun vs H Q _ => ∃ (v : V) (xs : List Rw), vs = [v] ∧ Prg H xs v ∧ POk xs ∧ ∀ H', Same H H' → Q (.str (wProg xs)) H'
theorem log_ok {i : Int} (h : numOk i) : i.natAbs.log2 < 1920 := by
  unfold numOk at h
  by_cases c : i.natAbs = 0
  · rw [c]
    decide
  · have : i.natAbs.log2 < 14 := (Nat.log2_lt c).mpr (by show i.natAbs < 16384; omega)
    omega
theorem sum_len {m : Nat} : ∀ {l : List Str}, (∀ p ∈ l, p.length ≤ m) → (l.map (·.length)).sum ≤ l.length * m
  | [], _ => by simp
  | p :: l, h => by
    have h1 := h p (by simp)
    have h2 := sum_len (m := m) (l := l) fun q hq => h q (List.mem_cons_of_mem _ hq)
    rw [List.map_cons, List.sum_cons, List.length_cons, Nat.succ_mul]
    omega
theorem fill_same {H H2 H3 : Hp} {D : Addr} {o : HO} (hD : H D = none) (s2 : Same H H2) (s3 : Same H2 H3) : Same H (upd H3 D o) := fun b u e => by
  rw [upd_ne (ne_of_none e hD)]
  exact s3 _ _ (s2 _ _ e)
abbrev s_written_value : Stmt := top 30
abbrev N_written_value : List Str := ["value"]
abbrev P_written_value : List Str := ["value"]
theorem sc_written_value : FnScope N_written_value P_written_value (defScope s_written_value) := ⟨rfl, rfl, rfl, by decide +kernel, rfl, by decide +kernel, by decide +kernel⟩
abbrev s_written_row : Stmt := top 31
abbrev N_written_row : List Str := ["row", "value"]
abbrev P_written_row : List Str := ["row"]
theorem sc_written_row : FnScope N_written_row P_written_row (defScope s_written_row) := ⟨rfl, rfl, rfl, by decide +kernel, rfl, by decide +kernel, by decide +kernel⟩
abbrev s_written : Stmt := top 32
abbrev N_written : List Str := ["program", "row"]
abbrev P_written : List Str := ["program"]
theorem sc_written : FnScope N_written P_written (defScope s_written) := ⟨rfl, rfl, rfl, by decide +kernel, rfl, by decide +kernel, by decide +kernel⟩
section
variable {P : Program} {w : World} {K : PySem.W.Frag} {mg : Str → Option Value} {base : Heap}
theorem ok_wvalue {f : Addr} {fd : FuncData} (F : Fun K "written_value" "written_value" s_written_value f fd) (T : Tx mg) (G : Gnw mg) : FnOk P w K mg base CX0 1 f fd P_written_value spWValue := by
  have sc := sc_written_value
  refine F.ok sc (fun vs H Q E h => ?_) (fun cdv A outer s H vs Q E hr h => ?_)
  · obtain ⟨v, rfl, _⟩ := h
    rfl
  obtain ⟨v, rfl, hv, k⟩ := h
  have hu64 := hr.units
  refine ⟨_, ((pss_one (ps_ret (pe_ifExp (pt_cmpR (oq_eq K hu64) (qv 0) pe_str (nomark _)) (pe_globS G.NO_RIGHTS) (pe_callTy cq_str (by rfl) T.str (by decide +kernel) (pa_cons (qv 0) pa_nil))))) : PSs _ [_] _), ?_⟩
  rcases hv with ⟨i, rfl, hi⟩ | ⟨z, rfl, hz⟩
  · exact ⟨rfl, _, rfl, iteF' (decide_eq_false fun z => by cases z) ⟨log_ok hi, k⟩⟩
  · refine ⟨rfl, _, rfl, ?_⟩
    rw [dstr]
    refine ite2 (fun c => ?_) (fun c => ?_)
    · have e : wv (.str z) = Str.ofString "-" := if_pos (of_decide_eq_true c)
      rw [e] at k
      exact k
    · have e : wv (.str z) = z := if_neg fun q => c (decide_eq_true q)
      rw [e] at k
      exact k
theorem ok_wrow {f : Addr} {fd : FuncData} (F : Fun K "written_row" "written_row" s_written_row f fd) (D_written_value : Df P w K mg base 1 "written_value" P_written_value [] spWValue) : FnOk P w K mg base CX0 2 f fd P_written_row spWRow := by
  have sc := sc_written_row
  refine F.ok sc (fun vs H Q E h => ?_) (fun cdv A outer s H vs Q E hr h => ?_)
  · obtain ⟨v, x, rows, rfl, _⟩ := h
    rfl
  obtain ⟨rv, x, rows, rfl, ⟨p, rfl, hp⟩, okx, hrows, k⟩ := h
  refine ⟨_, ((pss_one (ps_ret (pe_join pe_str (pe_lc (own := [("value", 1)]) (g := gName 1) (by rfl) sc.nd (pi_tup (qv 0)) (blkOk_by (own := [("value", 1)]) (N := N_written_row) (sc := defScope s_written_row) (by decide +kernel)) (fun _ _ _ _ _ => (pg_name (i := 1) sc.nd rfl (by first | exact Or.inl rfl | exact Or.inr rfl))) (fun _ _ _ _ _ => pts_nil) (fun _ _ _ _ _ => (qcall D_written_value (by first | exact hr | exact hr.mono (by omega)) (pa_cons (qv 1) pa_nil))))))) : PSs _ [_] _), ?_⟩
  refine ⟨⟨_, rfl⟩, p, rfl, ⟨_, SqT.of hp⟩, fun D hD => ?_⟩
  refine lc_by (n := x.vals.length) (fun i H2 => Same H H2 ∧ H2 D = some (.lst ((x.vals.take i).map fun v => V.str (wv v)))) ⟨same_new hD _, upd_same⟩ ?_ ?_ ?_ ?_
  · rintro i H2 hi ⟨s2, d2⟩
    exact ⟨_, _, SqT.of (s2 _ _ hp), List.getElem?_eq_getElem hi⟩
  · rintro H2 ⟨s2, d2⟩
    exact ⟨_, SqT.of (s2 _ _ hp), Nat.le_refl _⟩
  · rintro i H2 v H2' hi ⟨s2, d2⟩ ⟨rfl, hv⟩
    have hv := hv _ (SqT.of (s2 _ _ hp))
    refine ⟨rfl, ?_⟩
    refine ⟨v, rfl, vals_ok hrows x okx v (List.mem_of_getElem? hv), ?_⟩
    refine ⟨_, d2, ?_, fill_same hD s2 (Same.refl _), ?_⟩
    · have := vals_len x
      rw [List.length_map, List.length_take]
      exact small1000 (by omega)
    · rw [upd_same, List.take_succ, hv, List.map_append]
      rfl
  · rintro H2 ⟨s2, d2⟩
    rw [List.take_length] at d2
    refine ⟨_, D, x.vals.map wv, rfl, rfl, .inl (SqL.of (by rw [List.map_map]; exact d2)), ?_, k H2 s2⟩
    have q := sum_len (m := 6) (l := x.vals.map wv) fun p hp => by
      obtain ⟨v, hv, rfl⟩ := List.mem_map.mp hp
      rw [len_tl]
      exact (wv_ok (vals_ok hrows x okx v hv)).2.1
    have l := vals_len x
    rw [List.length_map] at q ⊢
    rw [show (Str.ofString " ").length = 1 from rfl]
    omega
theorem ok_written {f : Addr} {fd : FuncData} (F : Fun K "written" "written" s_written f fd) (D_check_program : Df P w K mg base 6 "check_program" P_check_program [] spFirst) (D_written_row : Df P w K mg base 2 "written_row" P_written_row [] spWRow) : FnOk P w K mg base CX0 7 f fd P_written spWritten := by
  have sc := sc_written
  refine F.ok sc (fun vs H Q E h => ?_) (fun cdv A outer s H vs Q E hr h => ?_)
  · obtain ⟨v, xs, rfl, _⟩ := h
    rfl
  obtain ⟨v, xs, rfl, ⟨p, vs, rfl, hp, r⟩, okp, k⟩ := h
  refine ⟨_, ((pss_cons (ps_expr (qcall D_check_program (by first | exact hr | exact hr.mono (by omega)) (pa_cons (qv 0) pa_nil)))
  (pss_one (ps_ret (pe_join pe_str (pe_lc (own := [("row", 1)]) (g := gName 1) (by rfl) sc.nd (pi_tup (qv 0)) (blkOk_by (own := [("row", 1)]) (N := N_written) (sc := defScope s_written) (by decide +kernel)) (fun _ _ _ _ _ => (pg_name (i := 1) sc.nd rfl (by first | exact Or.inl rfl | exact Or.inr rfl))) (fun _ _ _ _ _ => pts_nil) (fun _ _ _ _ _ => (qcall D_written_row (by first | exact hr | exact hr.mono (by omega)) (pa_cons (qv 1) pa_nil)))))))) : PSs _ (_ :: _) _), ?_⟩
  refine ⟨_, xs, rfl, ⟨p, vs, rfl, hp, r⟩, okp, fun H1 s1 => ?_⟩
  have hp1 := s1 _ _ hp
  have hl := Paired.length r
  obtain ⟨n1, n60, hx⟩ := okp
  refine ⟨⟨_, rfl⟩, p, rfl, ⟨_, SqT.of hp1⟩, fun D hD => ?_⟩
  refine lc_by (n := vs.length) (fun i H2 => Same H1 H2 ∧ H2 D = some (.lst ((xs.take i).map fun x => V.str (wRow x)))) ⟨same_new hD _, upd_same⟩ ?_ ?_ ?_ ?_
  · rintro i H2 hi ⟨s2, d2⟩
    exact ⟨_, _, SqT.of (s2 _ _ hp1), List.getElem?_eq_getElem hi⟩
  · rintro H2 ⟨s2, d2⟩
    exact ⟨_, SqT.of (s2 _ _ hp1), Nat.le_refl _⟩
  · rintro i H2 v H2' hi ⟨s2, d2⟩ ⟨rfl, hv⟩
    have hv := hv _ (SqT.of (s2 _ _ hp1))
    obtain ⟨v', x, e1, e2, ix⟩ := Paired.get2 r hi
    rw [hv] at e1
    cases e1
    refine ⟨rfl, ?_⟩
    refine ⟨v, x, _, rfl, (ix.tups (Same.tups s1)).tups (Same.tups s2), hx x (List.mem_of_getElem? e2), by omega, fun H3 s3 => ?_⟩
    refine ⟨_, s3 _ _ d2, ?_, fill_same hD s2 s3, ?_⟩
    · rw [List.length_map, List.length_take]
      exact small1000 (by omega)
    · rw [upd_same, List.take_succ, e2, List.map_append]
      rfl
  · rintro H2 ⟨s2, d2⟩
    rw [hl, List.take_length] at d2
    refine ⟨_, D, xs.map wRow, rfl, rfl, .inl (SqL.of (by rw [List.map_map]; exact d2)), ?_, k H2 (s1.trans s2)⟩
    have q := sum_len (m := 28) (l := xs.map wRow) fun p hp => by
      obtain ⟨v, hv, rfl⟩ := List.mem_map.mp hp
      rw [len_tl]
      exact row_len (rows := xs.length) (by omega) v (hx v hv)
    rw [List.length_map] at q ⊢
    rw [show (Str.ofString "\n").length = 1 from rfl]
    omega
end
end Tm
set_option Elab.async false
set_option linter.all false
set_option maxRecDepth 100000
set_option maxHeartbeats 1000000
set_option pp.maxSteps 600
set_option pp.deepTerms false
namespace Tm
open PySem L2 TL
abbrev s_read_number : Stmt := top 33
abbrev N_read_number : List Str := ["word", "figures", "number", "sign"]
abbrev P_read_number : List Str := ["word"]
theorem sc_read_number : FnScope N_read_number P_read_number (defScope s_read_number) := ⟨rfl, rfl, rfl, by decide +kernel, rfl, by decide +kernel, by decide +kernel⟩
abbrev s_read_rights : Stmt := top 34
abbrev N_read_rights : List Str := ["word"]
abbrev P_read_rights : List Str := ["word"]
theorem sc_read_rights : FnScope N_read_rights P_read_rights (defScope s_read_rights) := ⟨rfl, rfl, rfl, by decide +kernel, rfl, by decide +kernel, by decide +kernel⟩
abbrev s_read_value : Stmt := top 35
abbrev N_read_value : List Str := ["word", "kind"]
abbrev P_read_value : List Str := ["word", "kind"]
theorem sc_read_value : FnScope N_read_value P_read_value (defScope s_read_value) := ⟨rfl, rfl, rfl, by decide +kernel, rfl, by decide +kernel, by decide +kernel⟩
abbrev s_read_row : Stmt := top 36
abbrev N_read_row : List Str := ["line", "kinds", "word", "others", "other", "kind"]
abbrev P_read_row : List Str := ["line"]
theorem sc_read_row : FnScope N_read_row P_read_row (defScope s_read_row) := ⟨rfl, rfl, rfl, by decide +kernel, rfl, by decide +kernel, by decide +kernel⟩
abbrev s_read : Stmt := top 37
abbrev N_read : List Str := ["text", "rows", "wrong", "line"]
abbrev P_read : List Str := ["text"]
theorem sc_read : FnScope N_read P_read (defScope s_read) := ⟨rfl, rfl, rfl, by decide +kernel, rfl, by decide +kernel, by decide +kernel⟩
section
variable {P : Program} {w : World} {K : PySem.W.Frag} {mg : Str → Option Value} {base : Heap}
end
end Tm
set_option Elab.async false
set_option linter.all false
set_option maxRecDepth 100000
set_option maxHeartbeats 1000000
namespace L2
open PySem PySem.Spec PyProof.Rows
section
variable {X : Cx} {k i : Nat} {f : Addr} {fd : FuncData} {x : Str} {ps : List Str} {sp : Sp} {t : TA} {e : Expr} {es : List Expr} {p pos : Pos}
theorem pe_globR {a : Addr} (h : X.mg x = some (.ref a)) (hg : Gl X x := by rfl) (hd : (x == ("__debug__" : Str)) = false := by decide) : PE X (.Name x pos) (tC (.ref a)) := pe_glob hg h rfl hd
end
end L2
namespace Tm
open PySem L2
end Tm
set_option Elab.async false
set_option linter.all false
set_option maxRecDepth 100000
set_option maxHeartbeats 1000000
namespace L2
open PySem PySem.Spec PyProof.Rows
section
variable {P : Program} {w : World} {H : Hp} {h h' : Heap} {T : Addr} {ps more : Array Value} {fs ex : List Addr}
theorem HOk.grow (ok : HOk P w H h) (hT : H T = some (.tbl ps)) (k : ∀ b u, b ≠ T → h.get? b = some u → h'.get? b = some u) (new : h'.get? T = some { cls := .none, data := .fields (ps ++ more) }) : HOk P w (upd H T (.tbl (ps ++ more))) h' := fun b u e => by
  by_cases hb : b = T
  · subst hb
    rw [upd_same] at e
    cases e
    exact new
  · rw [upd_ne hb] at e
    refine (ok b u e).stay (fun c v hc q => k c v ?_ q) (fun c q => ?_) fun c xs q => ?_
    · rcases hc with z | z
      · rw [z]; exact hb
      · rintro rfl
        rw [hT] at z
        cases z
    · rw [upd_ne]
      · exact q
      · rintro rfl
        rw [hT] at q
        cases q
    · rw [upd_ne]
      · exact q
      · rintro rfl
        rw [hT] at q
        cases q
theorem Un.grow (hT : H T = some (.tbl ps)) (k : ∀ b u, b ≠ T → h.get? b = some u → h'.get? b = some u) (new : h'.get? T = some { cls := .none, data := .fields (ps ++ more) }) : Un fs ex H (upd H T (.tbl (ps ++ more))) h h' := by
  have nn : ∀ b, H b = none → b ≠ T := fun b n z => by rw [z, hT] at n; cases n
  refine ⟨fun b u q n _ _ => k b u (nn b n) q, fun b u q n _ _ => ⟨u.slots, k b u (nn b n) q⟩, fun b u q n _ => by rw [upd_ne (nn b n)]; exact n, fun b u q _ => ?_, fun b xs q => ?_, fun b o u q => ?_, fun b qs q => ?_⟩
  · by_cases hb : b = T
    · exact ⟨_, hb ▸ new⟩
    · exact ⟨u, k b u hb q⟩
  · rw [upd_ne]
    · exact q
    · rintro rfl
      rw [hT] at q
      cases q
  · rw [upd_ne]
    · exact q
    · rintro rfl
      rw [hT] at q
      cases q
  · by_cases hb : b = T
    · subst hb
      rw [hT] at q
      cases q
      exact ⟨more, upd_same⟩
    · exact ⟨#[], by rw [upd_ne hb, q]; simp⟩
theorem HOk.add {a : Addr} {o : HO} (ok : HOk P w H h) (hn : H a = none) (new : ObjOk P w (upd H a o) h a o) : HOk P w (upd H a o) h := fun b u e => by
  by_cases hb : b = a
  · subst hb
    rw [upd_same] at e
    cases e
    exact new
  · rw [upd_ne hb] at e
    exact (ok b u e).stay (fun _ _ _ q => q) (fun c q => by rw [upd_ne (ne_of_none q hn)]; exact q) fun c xs q => by rw [upd_ne (ne_of_none q hn)]; exact q
theorem Un.also {H1 : Hp} {a : Addr} {o : HO} (u : Un fs ex H H1 h h') (hge : h.objs.size ≤ a) (hn : H1 a = none) : Un fs ex H (upd H1 a o) h h' := by
  have nb : ∀ {b : Addr} {v : Obj}, h.get? b = some v → b ≠ a := fun e => Nat.ne_of_lt (Nat.lt_of_lt_of_le (Heap.lt_size e) hge)
  refine ⟨u.keep, u.slot, fun b v q n hx => by rw [upd_ne (nb q)]; exact u.free b v q n hx, u.there, fun b xs q => ?_, fun b v xs q => ?_, fun b ps q => ?_⟩
  · have e := u.tups b xs q
    rw [upd_ne (ne_of_none e hn)]
    exact e
  · have e := u.frzs b v xs q
    rw [upd_ne (ne_of_none e hn)]
    exact e
  · obtain ⟨m, e⟩ := u.tbls b ps q
    exact ⟨m, by rw [upd_ne (ne_of_none e hn)]; exact e⟩
end
def phC (c : Addr) (qual : Str) : Heap → Prop := fun h => h.CodeRec (.ref c) qual
def phF (f : Addr) (fd : FuncData) : Heap → Prop := fun h => h.get? f = some { cls := .type "function", data := .func fd }
theorem ext_code {P : Program} {w : World} {H : Hp} {h : Heap} {c : Addr} {qual : Str} (x : h.CodeRec (.ref c) qual) : ObjOk P w H h c (.ext (phC c qual)) := by
  refine ⟨x, ?_, fun h1 h2 y k => ?_⟩
  · obtain ⟨c2, o, vs, t, e, g, _⟩ := x
    cases e
    exact ⟨o, g⟩
  · obtain ⟨c2, o, vs, t, e, g, r⟩ := y
    cases e
    exact ⟨c, o, vs, t, rfl, k _ g, r⟩
theorem ext_fun {P : Program} {w : World} {H : Hp} {h : Heap} {f : Addr} {fd : FuncData} (x : h.get? f = some { cls := .type "function", data := .func fd }) : ObjOk P w H h f (.ext (phF f fd)) :=
  ⟨x, ⟨_, x⟩, fun h1 h2 y k => k _ y⟩
def TblOk (pos : Pos) (qual : Str) (H : Hp) (T : Addr) : Prop := H T = some (.tbl #[]) ∨ ∃ c, H T = some (.tbl #[rawInt pos.line, rawInt pos.col, .ref c]) ∧ H c = some (.ext (phC c qual))
def Bm (base : Heap) (mg : Str → Option Value) : Prop := ∃ bm o, mg "__builtins__" = some (.ref bm) ∧ bm ≠ builtinsNs ∧ bm ≠ mainGlobals ∧ base.get? bm = some o ∧ o.cls = .type "module" ∧ o.dict = some builtinsNs ∧ o.data = .plain
section
variable {X : Cx} {i : Nat} {name : Str} {params : Arguments} {body : List Stmt} {scope : Scope} {pos : Pos} {c T : Addr} {clos : List (Str × Addr)}
end
end L2
set_option Elab.async false
set_option linter.all false
set_option maxRecDepth 100000
set_option maxHeartbeats 1000000
namespace L2
open PySem PySem.Spec PyProof.Rows
def cxC (CX : CXT) (P : Program) (w : World) (K : PySem.W.Frag) (mg : Str → Option Value) (base : Heap) (N : List Str) (qual : Str) (scope : Scope) (f : Addr) (cd : Value) (clos : List (Str × Addr)) (A : Around) (outer : List Env) (s : Shared) (H : Hp) (E : XK) : Cx where
  prog := P
  w := w
  K := K
  mg := mg
  base := base
  A := A.deeper (PySem.W.envX qual scope s.heap.objs.size f cd clos)
  N := N
  s_0 := s
  H_0 := H
  env := PySem.W.envX qual scope s.heap.objs.size f cd clos
  outer := outer
  stack := PySem.W.envX qual scope s.heap.objs.size f cd clos :: outer
  ex := []
  calm := true
  fn := fun _ => false
  pn := []
  xe := fun e s' => wpAny (model P w) (A.deeper (PySem.W.envX qual scope s.heap.objs.size f cd clos)) (leaving (PySem.W.envX qual scope s.heap.objs.size f cd clos) e) (fun _ s'' => CX outer H s E e s'') (fun e' s'' => CX outer H s E e' s'') s'
structure CellsAt (h : Heap) (H : Hp) (outer : List Env) (clos : List (Str × Addr)) (fr : List Str) (ws : List V) : Prop where
  at_ : ∀ (j : Nat) (x : Str) (v : V), fr[j]? = some x → ws[j]? = some v → ∃ c u, clos.lookup x = some c ∧ h.IsCell c (some u) ∧ RelV v u
  all : ∀ x c, clos.lookup x = some c → ∃ v, h.IsCell c v
  non : ∀ x c, clos.lookup x = some c → H c = none
  out : ∀ x c, clos.lookup x = some c → c ∉ frs outer
theorem CellsAt.keep {h h' : Heap} {H H' : Hp} {o o' : List Env} {clos : List (Str × Addr)} {fr : List Str} {ws : List V} (c : CellsAt h H o clos fr ws) (k : ∀ x a ob, clos.lookup x = some a → h.get? a = some ob → h'.get? a = some ob) (n : ∀ x a, clos.lookup x = some a → H' a = none) (ot : ∀ x a, clos.lookup x = some a → a ∉ frs o') : CellsAt h' H' o' clos fr ws := by
  refine ⟨fun j x v e1 e2 => ?_, fun x a e => ?_, n, ot⟩
  · obtain ⟨a, u, e3, ⟨ob, e4, e5⟩, r⟩ := c.at_ j x v e1 e2
    exact ⟨a, u, e3, ⟨ob, k x a ob e3 e4, e5⟩, r⟩
  · obtain ⟨v, ob, e4, e5⟩ := c.all x a e
    exact ⟨v, ob, k x a ob e e4, e5⟩
section
variable {P : Program} {w : World} {K : PySem.W.Frag} {mg : Str → Option Value} {base : Heap} {N fr : List Str} {p qual : Str} {scope : Scope} {f : Addr} {cd : Value} {clos : List (Str × Addr)} {A : Around} {outer : List Env} {s : Shared} {H : Hp} {E : XK} {CX : CXT} {ws : List V} {v : V} {u : Value}
end
section
variable {X : Cx} {i k : Nat} {f c : Addr} {x : Str} {N fr : List Str} {pn name qual : Str} {params : Arguments} {body : List Stmt} {scope : Scope} {clos : List (Str × Addr)} {dV kV doc pm ct : Value} {an : Option Addr} {ws : List V} {t : TA} {e : Expr} {p pos : Pos}
end
structure FnOkC (P : Program) (w : World) (K : PySem.W.Frag) (mg : Str → Option Value) (base : Heap) (k : Nat) (f : Addr) (fd : FuncData) (ps : List Str) (Cd : Heap → Hp → List Env → Prop) (sp : Sp) : Prop where
  len : ∀ vs H Q E, sp vs H Q E → vs.length = ps.length
  run : ∀ (A : Around) (outer : List Env) (s : Shared) (H : Hp) (args : Args) (us : List Value) (vs : List V) (Q : VK) (E : XK), Room k A → Env0 P w K mg base A outer s H → Cd s.heap H outer → BindsTo s fd args (ps.zip us) → Vals vs us → sp vs H Q E →
    codeAny (model P w) A (.call (.ref f) args) (CR CX0 outer P w H s Q E) s
theorem Fun.okC {P : Program} {w : World} {K : PySem.W.Frag} {mg : Str → Option Value} {base : Heap} {x qual : Str} {st : Stmt} {f : Addr} {fd : FuncData} {N ps : List Str} {k : Nat} {sp : Sp} {Cd : Heap → Hp → List Env → Prop} (F : Fun K x qual st f fd) (S : FnScope N ps (defScope st)) (len : ∀ vs H Q E, sp vs H Q E → vs.length = ps.length)
    (hbody : ∀ (cdv : Value) (A : Around) (outer : List Env) (s : Shared) (H : Hp) (vs : List V) (Q : VK) (E : XK), Room k (A.deeper (envOfC qual (defScope st) s.heap.objs.size f cdv)) → Cd s.heap H outer → sp vs H Q E →
      ∃ t, PSs (cxOf CX0 P w K mg base N qual (defScope st) f cdv A outer s H E).nox (defBody st) t ∧ t { nx := fun _ H' => Q .non H', rt := Q } (start N vs) H) : FnOkC P w K mg base (k + 1) f fd ps Cd sp := by
  obtain ⟨oc, od, kV, doc, pm, an, cdv, ct, osl, rfl, lk, hcd⟩ := F.ex
  refine ⟨len, fun A outer s H args us vs Q E hr e0 hC hb r hsp => ?_⟩
  have hl := len _ _ _ _ hsp
  have KX : K.In s.heap := e0.mod.kin.keeps fun b o e => (e0.bs b o e).1
  have lim : s.heap.NoLimit := e0.mod.nolimit.keeps fun b o e => (e0.bs b o e).1
  have hkind : ∀ y ∈ ps.zip us, (defScope st).names.lookup y.1 = some .local ∨ ((defScope st).names.lookup y.1 = some .cell ∧ ((cellsFrom (s.heap.objs.size + 1) (defScope st).names []).lookup y.1).isSome = true) := fun ⟨n, v⟩ hy => by
    rcases S.par n (List.of_mem_zip hy).1 with q | q
    · exact .inl q
    · exact .inr ⟨q, PySem.W.cellsFrom_some _ _ _ (.inl q)⟩
  refine codeAny_call_function hr.depth (KX _ _ lk) rfl S.co S.gen rfl (PySem.W.codeRec_of KX hcd) (hb _ _ _ _ ?_)
  refine wpAny_newFunctionEnv_cells S.kind hkind fun env he s1 x => ?_
  subst he
  refine ⟨lim.keeps x.toInCall.keep, codeAny_func ?_⟩
  obtain ⟨t, ht, hq⟩ := hbody cdv A outer s H vs Q E (hr.deeper _) hC hsp
  have I : Inv (cxOf CX0 P w K mg base N qual (defScope st) f cdv A outer s H E) [] (start N vs) H s1 := inv_start S hr.hd e0 hl r x
  refine wpAny_mono (ht.nox [] s1 (start N vs) H _ I hq) (fun fl s' hs => ?_) fun e s' hs => hs
  have fin : ∀ {σ' : St} {H' : Hp} {v : V} {u : Value}, Inv (cxOf CX0 P w K mg base N qual (defScope st) f cdv A outer s H E) [] σ' H' s' → RelV v u → Q v H' → CE outer P w H s Q u s' :=
    fun {σ' H' v u} J rv q => ⟨v, H', J.os, J.bare, J.base, J.hok, rv, q⟩
  cases fl with
  | ret u =>
    obtain ⟨v, σ', H', J, rv, q⟩ := hs
    exact fin J rv q
  | next =>
    obtain ⟨σ', H', J, q⟩ := hs
    exact fin (v := V.non) (u := Value.none) J rfl q
  | brk =>
    obtain ⟨_, _, _, q⟩ := hs
    exact False.elim q
  | cont =>
    obtain ⟨_, _, _, q⟩ := hs
    exact False.elim q
section
variable {X : Cx} {k : Nat} {f : Addr} {fd : FuncData} {x : Str} {ps : List Str} {t : TA} {e : Expr} {es : List Expr} {p pos : Pos}
theorem qcallH (hm : X.mg x = some (.ref f)) (hk : PySem.W.keepIn X.K (.ref f) = true) (hb : Binds X.K fd ps []) (hr : Room k X.A)
    (ha : PA X (e :: es) t) (hg : Gl X x := by rfl) (hdb : (x == ("__debug__" : Str)) = false := by decide) (he : starEach (e :: es) X.env = (false, eval e X.env) :: starEach es X.env := by rfl) (hpl : (backTo pos (starEach es X.env)).any (·.1) = false := by rfl) :
    PE X (.Call (.Name x p) (e :: es) [] pos) (fun σ H Q => ∃ (Cd : Heap → Hp → List Env → Prop) (sp : Sp), FnOkC X.prog X.w X.K X.mg X.base k f fd ps Cd sp ∧ (∀ pins s H, Inv X pins σ H s → Cd s.heap H X.stack) ∧ t σ H fun vs H1 => sp vs H1 Q E0) := by
  intro pins s σ H Q I h
  obtain ⟨Cd, sp, F, hC, h⟩ := h
  refine wpAny_Call_Name_kw (ld_glob I hg hm ?_ hdb)
  refine PySem.W.callWith_K (h₀ := X.base) I.ok.mod.kin hk (thn (ha pos pins s σ H _ I h) fun us s1 ⟨vs, H1, I1, r, q⟩ => ⟨I1.kIn, ?_⟩) he hpl
  have hl : (us ++ []).length = ps.length := by rw [List.append_nil, ← r.length]; exact F.len _ _ _ _ q
  have hbs := hb s1 us I1.kIn hl
  rw [List.append_nil] at hbs
  refine wpAny_call (codeAny_mono (F.run X.A X.stack s1 H1 ⟨us, []⟩ us vs Q E0 hr I1.env0 (hC pins s1 H1 I1) hbs r q) fun r s' hq => ?_)
  cases r with
  | error e => exact False.elim hq
  | ok fl =>
    cases fl with
    | ret u => exact I1.after hq
    | next => exact False.elim hq
    | brk => exact False.elim hq
    | cont => exact False.elim hq
end
theorem Fun.okD {P : Program} {w : World} {K : PySem.W.Frag} {mg : Str → Option Value} {base : Heap} {x qual : Str} {st : Stmt} {f : Addr} {fd : FuncData} {N ps : List Str} {k : Nat} {sp : Sp} (F : Fun K x qual st f fd) (S : FnScope N ps (defScope st)) (len : ∀ vs H Q E, sp vs H Q E → vs.length = ps.length)
    (hbody : ∀ (A : Around) (outer : List Env) (s : Shared) (H : Hp) (vs : List V) (Q : VK) (E : XK), Room k (A.deeper (envOfC qual (defScope st) s.heap.objs.size f fd.code)) → sp vs H Q E →
      ∃ t, PSs (cxOf CX0 P w K mg base N qual (defScope st) f fd.code A outer s H E).nox (defBody st) t ∧ t { nx := fun _ H' => Q .non H', rt := Q } (start N vs) H) : FnOk P w K mg base CX0 (k + 1) f fd ps sp := by
  obtain ⟨oc, od, kV, doc, pm, an, cdv, ct, osl, rfl, lk, hcd⟩ := F.ex
  refine fn_of lk hcd S len fun A outer s H vs Q E hr hsp => ?_
  obtain ⟨t, h, q⟩ := hbody A outer s H vs Q E hr hsp
  exact ⟨t, h.nox, q⟩
theorem CellsAt.inside {X : Cx} {pins : List (Addr × Obj)} {s : Shared} {σ : St} {H : Hp} {clos : List (Str × Addr)} {fr : List Str} {ws : List V} (c : CellsAt X.s_0.heap X.H_0 X.outer clos fr ws) (hx : X.ex = []) (I : Inv X pins σ H s) : CellsAt s.heap H X.stack clos fr ws := by
  have nx : ∀ b, b ∉ X.ex := fun b z => by rw [hx] at z; cases z
  have th : ∀ x a, clos.lookup x = some a → ∃ ob, X.s_0.heap.get? a = some ob := fun x a e => let ⟨_, ob, e1, _⟩ := c.all x a e; ⟨ob, e1⟩
  refine c.keep (fun x a ob e q => I.base.keep a ob q (c.non x a e) (c.out x a e) (nx a)) (fun x a e => ?_) (fun x a e z => ?_)
  · obtain ⟨ob, q⟩ := th x a e
    exact I.base.free a ob q (c.non x a e) (nx a)
  · obtain ⟨ob, q⟩ := th x a e
    rcases List.mem_cons.mp (I.stkSub a z) with y | y
    · have l1 := Heap.lt_size q
      have l2 := I.ok.above
      rw [y] at l1
      exact absurd (Nat.lt_of_lt_of_le l1 l2) (Nat.lt_irrefl _)
    · exact c.out x a e y
theorem CellsAt.own {X : Cx} {pins : List (Addr × Obj)} {s : Shared} {σ : St} {H : Hp} {clos : List (Str × Addr)} {fr : List Str} {ws : List V} (I : Inv X pins σ H s) (hc : ∀ x a, clos.lookup x = some a → X.env.cells.lookup x = some a) (hf : ∀ x, X.fn x = true)
    (hs : ∀ (j : Nat) (x : Str) (v : V), fr[j]? = some x → ws[j]? = some v → ∃ (i : Nat), X.N[i]? = some x ∧ σ[i]? = some (some v) ∧ X.env.scope.names.lookup x = some .cell ∧ ∃ a, clos.lookup x = some a) : CellsAt s.heap H X.stack clos fr ws := by
  refine ⟨fun j x v e1 e2 => ?_, fun x a e => I.cell x a (hc x a e), fun x a e => I.freeC x a (hc x a e), fun x a e z => ?_⟩
  · obtain ⟨i, h1, h2, h3, a, h4⟩ := hs j x v e1 e2
    obtain ⟨m, hn, hl⟩ := I.loc
    obtain ⟨u, r, l⟩ := hl i x v h1 h2 (.inr (.inl h3))
    rcases l with ⟨l, _⟩ | ⟨_, c, e, q⟩
    · have l : X.env.scope.names.lookup x = some .local := l
      rw [h3] at l
      cases l
    · rw [hc x a h4] at e
      cases e
      exact ⟨a, u, h4, q, r⟩
  · rcases List.mem_cons.mp (I.stkSub a z) with y | y
    · exact I.cne x a (hc x a e) y
    · obtain ⟨_, o, ho, _⟩ := I.ok.funs.mem y
      exact absurd (Nat.lt_of_lt_of_le (Heap.lt_size ho) (I.ok.cab x a (hf x) (hc x a e))) (Nat.lt_irrefl _)
end L2
set_option Elab.async false
set_option linter.all false
set_option maxRecDepth 100000
set_option maxHeartbeats 1000000
namespace L2
open PySem PySem.Spec PyProof.Rows
structure OnlyT (ts : List Addr) (H : Hp) : Prop where
  all : ∀ b, H b = none ∨ (∃ o xs, H b = some (.frz o (.lst xs))) ∨ (b ∈ ts ∧ H b = some (.tbl #[]))
  tab : ∀ b ∈ ts, H b = some (.tbl #[])
theorem law_callT {P : Program} {w : World} {K : PySem.W.Frag} {mg mb : Str → Option Value} {k : Nat} {fa a : Addr} {fd : FuncData} {x : Str} {sp : Sp} {s₁ : Shared} {vs : List Value} {ns : List Int} {ts : List Addr}
    (KX : K.In s₁.heap) (hns : s₁.heap.Ns mainGlobals mg) (hb : s₁.heap.Ns builtinsNs mb) (hbb : ∀ x : Str, x ≠ "__name__" → mb x = bootBuiltins x) (hlim : s₁.heap.NoLimit) (hg : s₁.gens = #[]) (hBm : Bm s₁.heap mg)
    (hts : ∀ T ∈ ts, s₁.heap.get? T = some (PySem.W.tabObj #[])) (hct : ∀ T ∈ ts, ∃ c, PySem.W.CodeHd s₁.heap c T) (hkt : ∀ T ∈ ts, K.lookup T = none)
    (ha : s₁.heap.get? a = some { cls := .type "list", data := .seq vs.toArray }) (hi : IntsAre vs ns) (hl : ns.length ≤ sizeLine) (hr : Room k callerA)
    (F : ∀ base : Heap, K.In base → base.Ns mainGlobals mg → Bm base mg → FnOk P w K mg base CX0 k fa fd [x] sp) (hbind : ∀ (s : Shared) (u : Value), BindsTo s fd ⟨[u], []⟩ [(x, u)])
    (hsp : ∀ H : Hp, OnlyT ts H → SqL K H a (ns.map V.int) → sp [.ref a] H (fun v _ => v = .bl true) fun _ _ _ => False) :
    codeAny (model P w) callerA (.call (.ref fa) ⟨[.ref a], []⟩) (fun r s' => r = .ok (.ret (.bool true)) ∧ OldK s₁.heap s'.heap ∧ s'.os = s₁.os ∧ AllBare s'.gens) s₁ := by
  have rv := vals_ints hi
  have lenV := hi.length
  have naT : a ∉ ts := fun z => by
    have e := hts a z
    rw [ha] at e
    cases e
  have core : ∀ H : Hp, OnlyT ts H → SqL K H a (ns.map V.int) → HOk P w H s₁.heap → (∀ b, H b ≠ none → b = a ∨ b ∈ ts) → (H a ≠ none → K.lookup a = none) →
      codeAny (model P w) callerA (.call (.ref fa) ⟨[.ref a], []⟩) (fun r s' => r = .ok (.ret (.bool true)) ∧ OldK s₁.heap s'.heap ∧ s'.os = s₁.os ∧ AllBare s'.gens) s₁ := by
    intro H hO hS hok hA hK
    have base_of : ∀ {b : Addr} {o : Obj}, s₁.heap.get? b = some o → H b = none → (hidT s₁.heap H).get? b = some o := fun e n => hidT_get e n
    have none_of : ∀ {b : Addr} {o : Obj}, s₁.heap.get? b = some o → (∀ its n, o.data ≠ .seq its n) → (∀ vs, o.data ≠ .fields vs) → H b = none := fun {b o} e n1 n2 => by
      cases q : H b with
      | none => rfl
      | some u =>
        rcases hA b (by rw [q]; simp) with z | z
        · subst z
          rw [ha] at e; cases e
          exact absurd rfl (n1 _ _)
        · rw [hts b z] at e; cases e
          exact absurd rfl (n2 _)
    have nsK : ∀ {b : Addr} {m : Str → Option Value}, s₁.heap.Ns b m → (hidT s₁.heap H).Ns b m := fun {b m} ⟨o, es, ep, e, d, r⟩ => ⟨o, es, ep, base_of e (none_of e (fun _ _ z => by rw [d] at z; cases z) fun _ z => by rw [d] at z; cases z), d, r⟩
    have hKb : K.In (hidT s₁.heap H) := fun b o e => base_of (KX b o e) (by
      cases q : H b with
      | none => rfl
      | some u =>
        rcases hA b (by rw [q]; simp) with z | z
        · subst z
          rw [hK (by rw [q]; simp)] at e; cases e
        · rw [hkt b z] at e; cases e)
    have hBb : Bm (hidT s₁.heap H) mg := by
      obtain ⟨bm, o, b1, b2, b3, b4, b5, b6, b7⟩ := hBm
      exact ⟨bm, o, b1, b2, b3, base_of b4 (none_of b4 (fun _ _ z => by rw [b7] at z; cases z) fun _ z => by rw [b7] at z; cases z), b5, b6, b7⟩
    have hM : Mod K mg (hidT s₁.heap H) := ⟨hKb, nsK hns, ⟨mb, nsK hb, hbb⟩, let ⟨mc, h1, h2⟩ := hlim; ⟨mc, nsK h1, h2⟩⟩
    have e0 : Env0 P w K mg (hidT s₁.heap H) callerA [] s₁ H := ⟨rfl, hM, fun b o e => of_hidT e, Nat.le_of_eq (hidT_size _ _), trivial, fun b hb => absurd (show b ∈ ([] : List Addr) from hb) (by simp), hok, .of_eq hg⟩
    refine codeAny_mono ((F _ hKb (nsK hns) hBb).run callerA [] s₁ H ⟨[.ref a], []⟩ [.ref a] [.ref a] _ _ hr e0 (hbind s₁ (.ref a)) (.cons rfl .nil) (hsp H hO hS)) fun r s' h => ?_
    cases r with
    | error e => exact False.elim h
    | ok fl =>
      cases fl with
      | next => exact False.elim h
      | brk => exact False.elim h
      | cont => exact False.elim h
      | ret u =>
        obtain ⟨v, H', os, bare, un, hok', r', q⟩ := h
        have q' : v = .bl true := q
        subst q'
        obtain rfl : u = Value.bool true := r'
        have kept : ∀ b o, s₁.heap.get? b = some o → b ∉ ts → s'.heap.get? b = some o := fun b o e hb => by
          rcases hO.all b with z | ⟨ob, xs, z⟩ | ⟨z, _⟩
          · exact un.keep b o e z (by intro z; exact absurd (show b ∈ ([] : List Addr) from z) (by simp)) (by simp)
          · have z2 := un.frzs b ob _ z
            obtain ⟨e1, _⟩ := hok b _ z
            obtain ⟨e2, _⟩ := hok' b _ z2
            rw [e] at e1; cases e1
            exact e2
          · exact absurd z hb
        have grown : ∀ b, b ∈ ts → ∃ m, s'.heap.get? b = some (PySem.W.tabObj m) := fun b hb => by
          obtain ⟨m, z⟩ := un.tbls b _ (hO.tab b hb)
          exact ⟨_, hok' b _ z⟩
        refine ⟨rfl, ⟨fun b o e => ?_, fun b o e => ?_⟩, os, bare⟩
        · by_cases hb : b ∈ ts
          · obtain ⟨m, z⟩ := grown b hb
            have e2 := hts b hb
            rw [e] at e2
            cases e2
            obtain ⟨c, hc⟩ := hct b hb
            exact .inr (.inl ⟨(hc.tab (hts b hb)).isCodeTable, rfl, #[], m, rfl, by rw [Array.empty_append]; exact z⟩)
          · exact .inl (kept b o e hb)
        · by_cases hb : b ∈ ts
          · obtain ⟨m, z⟩ := grown b hb
            exact ⟨_, z⟩
          · exact ⟨o, kept b o e hb⟩
  cases hk : K.lookup a with
  | some o =>
    have e := KX a o hk
    rw [ha] at e
    cases e
    refine core (fun b => if b ∈ ts then some (.tbl #[]) else none) ⟨fun b => ?_, fun b hb => if_pos hb⟩ (.inr ⟨_, vs.toArray, _, hk, rfl, rfl, rfl, by rw [List.size_toArray, lenV]; exact hl, by simpa using rv⟩) (fun b u z => ?_) (fun b z => ?_) fun z => absurd (if_neg naT) z
    · by_cases hb : b ∈ ts
      · exact .inr (.inr ⟨hb, if_pos hb⟩)
      · exact .inl (if_neg hb)
    · by_cases hb : b ∈ ts
      · have z' := (if_pos hb).symm.trans z
        cases z'
        exact hts b hb
      · have z' := (if_neg hb).symm.trans z
        cases z'
    · by_cases hb : b ∈ ts
      · exact .inr hb
      · exact absurd (if_neg hb) z
  | none =>
    refine core (fun b => if b ∈ ts then some (.tbl #[]) else if b = a then some (.frz { cls := .type "list", data := .seq vs.toArray } (.lst (ns.map V.int))) else none) ⟨fun b => ?_, fun b hb => if_pos hb⟩ (.inl (.inr ⟨{ cls := .type "list", data := .seq vs.toArray }, (if_neg naT).trans (if_pos rfl)⟩)) (fun b u z => ?_) (fun b z => ?_) fun _ => hk
    · by_cases hb : b ∈ ts
      · exact .inr (.inr ⟨hb, if_pos hb⟩)
      · by_cases hb2 : b = a
        · exact .inr (.inl ⟨_, _, (if_neg hb).trans (if_pos hb2)⟩)
        · exact .inl ((if_neg hb).trans (if_neg hb2))
    · by_cases hb : b ∈ ts
      · have z' := (if_pos hb).symm.trans z
        cases z'
        exact hts b hb
      · have z := (if_neg hb).symm.trans z
        by_cases hb2 : b = a
        · have z' := (if_pos hb2).symm.trans z
          cases z'
          subst hb2
          exact ⟨ha, by rw [List.length_map]; exact hl, vs, _, rv, ha⟩
        · have z' := (if_neg hb2).symm.trans z
          cases z'
    · by_cases hb : b ∈ ts
      · exact .inr hb
      · by_cases hb2 : b = a
        · exact .inl hb2
        · exact absurd ((if_neg hb).trans (if_neg hb2)) z
theorem walk_ofT {l : PySem.W.OpenLaw} {n k : Nat} {q : Program} {loose : List Str} {XP : (Str → Option Value) → Heap → Prop} {YP : World → Heap → Prop} {d : DefRec} {K : Params → PySem.W.Frag} {sp : PySem.W.Frag → Sp} {x : Str} {ts : List Addr}
    (hn : l.most = some n) (hn2 : n ≤ sizeLine) (hdf : d.params.defaults = []) (hr : Room k callerA)
    (hY : ∀ (w : World) (h : Heap), YP w h → (K w.params).In h) (hT : ∀ (w : World) (h : Heap), YP w h → ∀ T ∈ ts, h.get? T = some (PySem.W.tabObj #[]))
    (hC : ∀ (w : World), ∀ T ∈ ts, ∃ c, PySem.W.codeHdIn (K w.params) c T = true) (hkt : ∀ (w : World), ∀ T ∈ ts, (K w.params).lookup T = none)
    (F : ∀ (w : World) (mg : Str → Option Value) (fa : Addr) (h : Heap), (K w.params).In h → h.Ns mainGlobals mg → mg d.name = some (.ref fa) →
      ∃ fd : FuncData, (∀ (s : Shared) (u : Value), BindsTo s fd ⟨[u], []⟩ [(x, u)]) ∧
        ∀ base : Heap, (K w.params).In base → base.Ns mainGlobals mg → Bm base mg → FnOk l.prog w (K w.params) mg base CX0 k fa fd [x] (sp (K w.params)))
    (hsp : ∀ (K : PySem.W.Frag) (H : Hp) (a : Addr) (ns : List Int), ns.length ≤ n → OnlyT ts H → SqL K H a (ns.map V.int) → sp K [.ref a] H (fun v _ => v = .bl true) fun _ _ _ => False) :
    PySem.W.WalkO q loose XP YP l.row.toRowW d [] (fun f vs => PySem.call f vs) := by
  refine Att.attach_call hn hdf fun w s₀ s₁ mg mb fa o pm cd doc a vs ns G Y ho hd hcd hmg hobj hints hlen hg => ?_
  have KX := hY w _ Y
  obtain ⟨fd, hb, hF⟩ := F w mg fa _ KX G.T.g hmg
  have hB : Bm s₁.heap mg := by
    obtain ⟨bm, ob, b1, b2, b3, b4, b5, b6⟩ := G.T.bmain
    refine ⟨bm, ob, b1, b2, fun z => ?_, b3, b4, b5, b6⟩
    obtain ⟨o, es, ep, e, hd, _⟩ := G.T.g
    rw [z, e] at b3
    cases b3
    rw [hd] at b6
    cases b6
  exact law_callT KX G.T.g G.T.b G.T.builtins G.T.nolimit hg hB (hT w _ Y) (fun T h => let ⟨c, e⟩ := hC w T h; ⟨c, PySem.W.codeHd_of_K KX e⟩) (hkt w) hobj hints (Nat.le_trans hlen hn2) hr hF hb fun H hO hS => hsp (K w.params) H a ns hlen hO hS
end L2
set_option Elab.async false
set_option linter.all false
set_option maxRecDepth 100000
set_option maxHeartbeats 1000000
namespace L2
open PySem PySem.Spec PyProof.Rows
def tabArr : List (Pos × Addr) → List Value
  | [] => []
  | e :: r => rawInt e.1.line :: rawInt e.1.col :: .ref e.2 :: tabArr r
def TblL (qual : Str) (H : Hp) (T : Addr) : Prop := ∃ es : List (Pos × Addr), H T = some (.tbl (tabArr es).toArray) ∧ ∀ e ∈ es, H e.2 = some (.ext (phC e.2 qual))
theorem tab_ok : ∀ es : List (Pos × Addr), TriplesOk (tabArr es)
  | [] => trivial
  | _ :: r => tab_ok r
theorem tab_among (pos : Pos) : ∀ es : List (Pos × Addr), codeAmong pos (tabArr es) = none ∨ ∃ e ∈ es, codeAmong pos (tabArr es) = some (.ref e.2)
  | [] => .inl rfl
  | e :: r => by
    show (if ((e.1.line : Int) == (pos.line : Int) && (e.1.col : Int) == (pos.col : Int)) = true then some (Value.ref e.2) else codeAmong pos (tabArr r)) = none ∨ ∃ e' ∈ e :: r, (if ((e.1.line : Int) == (pos.line : Int) && (e.1.col : Int) == (pos.col : Int)) = true then some (Value.ref e.2) else codeAmong pos (tabArr r)) = some (.ref e'.2)
    split
    · exact .inr ⟨e, by simp, rfl⟩
    · rcases tab_among pos r with h | ⟨e', h1, h2⟩
      · exact .inl h
      · exact .inr ⟨e', by simp [h1], h2⟩
theorem tab_app : ∀ (es : List (Pos × Addr)) (p : Pos) (c : Addr), tabArr (es ++ [(p, c)]) = tabArr es ++ [rawInt p.line, rawInt p.col, .ref c]
  | [], _, _ => rfl
  | e :: r, p, c => by
    show _ :: _ :: _ :: tabArr (r ++ [(p, c)]) = _
    rw [tab_app r]
    rfl
theorem TblL.keep {qual : Str} {H H' : Hp} {T : Addr} (h : TblL qual H T) (k : ∀ b o, H b = some o → (∀ xs, o ≠ .lst xs) → H' b = some o) : TblL qual H' T := by
  obtain ⟨es, e, c⟩ := h
  exact ⟨es, k _ _ e (fun _ z => by cases z), fun x hx => k _ _ (c x hx) (fun _ z => by cases z)⟩
theorem TblL.start {qual : Str} {H : Hp} {T : Addr} (h : H T = some (.tbl #[])) : TblL qual H T := ⟨[], h, fun e he => absurd he (by simp)⟩
section
variable {X : Cx} {params : Arguments} {body : Expr} {scope : Scope} {pos : Pos} {c T : Addr} {clos : List (Str × Addr)}
def tLam (qual : Str) (T : Addr) (mk : Value → Addr → Value → FuncData) : TE := fun σ H Q => TblL qual H T ∧ ∀ (f c' : Addr) (pm ctv : Value) (H' : Hp), H f = none → (∀ b o, b ≠ T → H b = some o → H' b = some o) → TblL qual H' T →
  H' f = some (.ext (phF f (mk pm c' ctv))) → H' c' = some (.ext (phC c' qual)) → f ≠ T → c' ≠ T → Q (.ref f) H'
theorem pe_lam (B : Bm X.base X.mg) (hcode : X.env.code = .ref c) (hC : PySem.W.codeHdIn X.K c T = true) (hcl : closureFor scope X.env = pure clos) (hd0 : defaultsOf params X.env = ([], [])) :
    PE X (.Lambda params body scope pos) (tLam (X.env.qual ++ "<lambda>") T fun pm c' ctv => PySem.W.kla_fn "<lambda>" (X.env.qual ++ "<lambda>") params body scope clos pm (.ref c') ctv) := by
  intro pins s σ H Q I h
  obtain ⟨⟨es, hT, hes⟩, k⟩ := h
  refine PySem.W.kla_eval hd0 ?_
  have C : PySem.W.CodeHd s.heap c T := PySem.W.codeHd_of_K I.kIn hC
  have hg : s.heap.Ns mainGlobals X.mg := I.mod.glob.keeps I.bk
  have nT : ∀ {b : Addr} {o : Obj}, X.base.get? b = some o → b ≠ T := fun e z => by
    have := (I.bs _ _ e).2
    rw [z, hT] at this
    cases this
  have hgT : mainGlobals ≠ T := by
    obtain ⟨o, es, ep, e, _⟩ := I.mod.glob
    exact nT e
  have hb : s.heap.BuiltinsAt X.mg T := by
    obtain ⟨bm, o, b1, b2, b3, b4, b5⟩ := B
    exact ⟨bm, o, b1, b2, b3, nT b4, I.bk _ _ b4, b5⟩
  have oT : s.heap.get? T = some (PySem.W.tabObj (tabArr es).toArray) := I.hok T _ hT
  have fin : ∀ (h1 : Heap) (H1 : Hp) (c' : Addr) (ctv : Value) (tk : Tok), Inv X pins σ H1 { s with heap := h1, toks := tk } → H h1.objs.size = none → (∀ b o, b ≠ T → H b = some o → H1 b = some o) → TblL (X.env.qual ++ "<lambda>") H1 T → H1 c' = some (.ext (phC c' (X.env.qual ++ "<lambda>"))) → c' ≠ T →
      EP X pins σ Q (.ref h1.objs.size) { s with heap := h1.push (PySem.W.kla_obj "<lambda>" (X.env.qual ++ "<lambda>") params body scope clos ((X.mg "__name__").getD .none) c' ctv), toks := tk } := by
    intro h1 H1 c' ctv tk I1 nf keep tb1 hc1 ncT
    have I2 := I1.laid (t' := tk) (h' := h1.push (PySem.W.kla_obj "<lambda>" (X.env.qual ++ "<lambda>") params body scope clos ((X.mg "__name__").getD .none) c' ctv)) (a := h1.objs.size) (o := .ext (phF h1.objs.size (PySem.W.kla_fn "<lambda>" (X.env.qual ++ "<lambda>") params body scope clos ((X.mg "__name__").getD .none) (.ref c') ctv)))
      (fun b u e => Heap.get?_push_of_some _ e) (Nat.le_refl _) (ext_fun (Heap.get?_push_size _ rfl))
    have nf1 : H1 h1.objs.size = none := I1.hok.fresh (Nat.le_refl _)
    obtain ⟨es1, t1, t2⟩ := tb1
    refine ⟨.ref h1.objs.size, _, I2, rfl, k h1.objs.size c' _ ctv _ nf (fun b o hb e => ?_) ⟨es1, ?_, fun e he => ?_⟩ upd_same ?_ (ne_of_none t1 nf1).symm ncT⟩
    · rw [upd_ne (ne_of_none (keep b o hb e) nf1)]
      exact keep b o hb e
    · rw [upd_ne (ne_of_none t1 nf1)]
      exact t1
    · rw [upd_ne (ne_of_none (t2 e he) nf1)]
      exact t2 e he
    · rw [upd_ne (ne_of_none hc1 nf1)]
      exact hc1
  rcases tab_among pos es with hn | ⟨e, he, hf⟩
  · refine PySem.W.kla_makeFunction (mg := X.mg) hcl I.ok.glob hg hcode C oT (tab_ok es) hn hgT hb fun c' ctv h' tk hx hge hlt hrec htb => ?_
    have hkx : ∀ b u, b ≠ T → s.heap.get? b = some u → h'.get? b = some u := fun b u hb q => hx b u hb q
    have hnc : H c' = none := I.hok.fresh hge
    have ncT : c' ≠ T := fun z => by
      rw [z, hT] at hnc
      cases hnc
    have nc : (upd H T (.tbl ((tabArr es).toArray ++ #[rawInt pos.line, rawInt pos.col, .ref c']))) c' = none := by
      rw [upd_ne ncT]
      exact hnc
    have I2 : Inv X pins σ (upd (upd H T (.tbl ((tabArr es).toArray ++ #[rawInt pos.line, rawInt pos.col, .ref c']))) c' (.ext (phC c' (X.env.qual ++ "<lambda>")))) { s with heap := h', toks := tk } :=
      I.un (t' := tk) ((Un.grow hT hkx htb).also hge nc) ((I.hok.grow hT hkx htb).add nc (ext_code hrec))
    have szh : s.heap.objs.size ≤ h'.objs.size := Nat.le_trans hge (Nat.le_of_lt hlt)
    refine fin h' _ c' ctv tk I2 (I.hok.fresh szh) (fun b o hb e => ?_) ⟨es ++ [(pos, c')], ?_, fun e he => ?_⟩ upd_same ncT
    · rw [upd_ne (ne_of_none e hnc), upd_ne hb]
      exact e
    · rw [upd_ne ncT.symm, upd_same, tab_app]
      simp
    · rcases List.mem_append.mp he with z | z
      · have q := hes e z
        rw [upd_ne (ne_of_none q hnc), upd_ne (fun y => by rw [y, hT] at q; cases q)]
        exact q
      · rw [List.mem_singleton.mp z]
        exact upd_same
  · refine PySem.W.kla_makeFunctionHit (mg := X.mg) hcl I.ok.glob hg hcode C oT (tab_ok es) hf hb fun ctv h' tk hk hsz => ?_
    have q := hes e he
    exact fin h' H e.2 ctv tk (I.kept hk) (I.hok.fresh hsz) (fun b o _ e => e) ⟨es, hT, hes⟩ q fun z => by rw [z, hT] at q; cases q
end
section
variable {P : Program} {w : World} {K : PySem.W.Frag} {mg : Str → Option Value} {base : Heap} {N fr : List Str} {p qual : Str} {scope : Scope} {f : Addr} {cd : Value} {clos : List (Str × Addr)} {A : Around} {outer : List Env} {s : Shared} {H : Hp} {E : XK} {ws : List V} {v : V} {u : Value}
end
section
variable {X : Cx} {i k : Nat} {f c : Addr} {x : Str} {N fr : List Str} {pn qual : Str} {params : Arguments} {body : Expr} {scope : Scope} {clos : List (Str × Addr)} {pm ct : Value} {ws : List V} {t : TA} {e : Expr} {p pos : Pos}
end
end L2
set_option Elab.async false
set_option linter.all false
set_option maxRecDepth 100000
set_option maxHeartbeats 1000000
namespace L2
open PySem PySem.Spec PyProof.Rows
def DictKept (h h' : Heap) : Prop := ∀ b o, h.get? b = some o → ∃ o', h'.get? b = some o' ∧ o'.dict = o.dict
theorem DictKept.refl (h : Heap) : DictKept h h := fun _ o e => ⟨o, e, rfl⟩
theorem DictKept.trans {h h1 h2 : Heap} (x : DictKept h h1) (y : DictKept h1 h2) : DictKept h h2 := fun b o e => by
  obtain ⟨o1, e1, d1⟩ := x b o e
  obtain ⟨o2, e2, d2⟩ := y b o1 e1
  exact ⟨o2, e2, d2.trans d1⟩
theorem DictKept.push {h : Heap} (o : Obj) : DictKept h (h.push o) := fun b o' e => ⟨o', Heap.get?_push_of_some _ e, rfl⟩
theorem DictKept.update {h : Heap} {a : Addr} {f : Obj → Obj} (hf : ∀ o, h.get? a = some o → (f o).isFreed = false ∧ (f o).dict = o.dict) : DictKept h (h.update a f) := fun b o e => by
  by_cases c : a = b
  · subst c
    obtain ⟨h1, h2⟩ := hf o e
    exact ⟨f o, Heap.get?_update_self f e h1, h2⟩
  · exact ⟨o, (Heap.get?_update_other _ _ c).trans e, rfl⟩
def Mild {α : Type} (t : Sem α) : Prop := ∀ (M : Model) (Γ : PySem.Ctx) (Q : α → Pos → Shared → Prop) (E : Value → Pos → Shared → Prop) (p : Pos) (s : Shared), Sem.wp M Γ t Q E p s → Sem.wp M Γ t (fun a p' s' => Q a p' s' ∧ DictKept s.heap s'.heap) (fun e p' s' => E e p' s' ∧ DictKept s.heap s'.heap) p s
section
variable {α β : Type}
theorem mild_pure (a : α) : Mild (pure a : Sem α) := fun M Γ Q E p s h => by
  rw [Sem.wp_pure'] at h ⊢
  exact ⟨h, DictKept.refl _⟩
theorem mild_unsupported (x : String) : Mild (unsupported x : Sem α) := fun M Γ Q E p s h => by
  unfold unsupported at h
  rw [Sem.wp_unsupported] at h
  exact h.elim
theorem mild_bind {m : Sem α} {f : α → Sem β} (hm : Mild m) (hf : ∀ a, Mild (f a)) : Mild (m >>= f) := fun M Γ Q E p s h => by
  rw [Sem.wp_bind'] at h ⊢
  refine Sem.wp_mono M Γ m ?_ (fun e p' s' q => q) p s (hm M Γ _ _ p s h)
  rintro a p' s' ⟨q, d⟩
  exact Sem.wp_mono M Γ (f a) (fun b p2 s2 q2 => ⟨q2.1, d.trans q2.2⟩) (fun e p2 s2 q2 => ⟨q2.1, d.trans q2.2⟩) p' s' (hf a M Γ _ _ p' s' q)
theorem mild_load (a : Addr) : Mild (load a) := fun M Γ Q E p s h => by
  unfold load at h ⊢
  rw [Sem.wp_load] at h ⊢
  obtain ⟨o, e, q⟩ := h
  rw [Sem.wp_pure] at q
  exact ⟨o, e, by rw [Sem.wp_pure]; exact ⟨q, DictKept.refl _⟩⟩
theorem mild_stack : Mild stack := fun M Γ Q E p s h => by
  unfold stack at h ⊢
  rw [Sem.wp_stack] at h ⊢
  rw [Sem.wp_pure] at h ⊢
  exact ⟨h, DictKept.refl _⟩
theorem mild_alloc (o : Obj) : Mild (alloc o) := fun M Γ Q E p s h => by
  unfold alloc at h ⊢
  rw [Sem.wp_alloc] at h ⊢
  rw [Sem.wp_pure] at h ⊢
  exact ⟨h, DictKept.push o⟩
theorem mild_update {a : Addr} {f : Obj → Obj} (hf : ∀ o : Obj, o.isFreed = false → (f o).isFreed = false ∧ (f o).dict = o.dict) : Mild (update a f) := fun M Γ Q E p s h => by
  unfold PySem.update at h ⊢
  rw [Sem.wp_update] at h ⊢
  rw [Sem.wp_pure] at h ⊢
  exact ⟨h.1, h.2, DictKept.update fun o e => hf o (Heap.get?_some_iff.mp e).2⟩
theorem mild_ite {c : Prop} [Decidable c] {x y : Sem α} (hx : Mild x) (hy : Mild y) : Mild (if c then x else y) := by
  split
  · exact hx
  · exact hy
end
theorem mild_fields (v : Value) : Mild (fieldsOf v) := by
  unfold fieldsOf
  split
  · exact mild_bind (mild_load _) fun o => by
      split
      · exact mild_pure _
      · exact mild_unsupported _
  · exact mild_unsupported _
theorem mild_field (v : Value) (i : Nat) : Mild (field v i) := by
  unfold field
  refine mild_bind (mild_fields v) fun vs => ?_
  split
  · exact mild_pure _
  · exact mild_unsupported _
theorem mild_setField (v : Value) (i : Nat) (x : Value) : Mild (setField v i x) := by
  unfold setField
  split
  · rename_i a
    unfold updateField
    refine mild_bind (mild_load _) fun o => ?_
    split
    · refine mild_ite (mild_update fun o' ho => ?_) (mild_unsupported _)
      obtain ⟨c, d, dt, sl⟩ := o'
      cases dt <;> first | exact ⟨ho, rfl⟩ | exact ⟨rfl, rfl⟩
    · exact mild_unsupported _
  · exact mild_unsupported _
theorem mild_setFlight (e : Value) (f : Option Addr) : Mild (setFlight e f) := by
  unfold setFlight
  refine mild_bind (mild_field _ _) fun tb => ?_
  exact mild_ite (mild_setField _ _ _) (mild_pure _)
theorem mild_caller : Mild underTheClaimsCaller := by
  unfold underTheClaimsCaller
  exact mild_bind mild_stack fun _ => mild_pure _
theorem mild_envs : Mild frameEnvs := by
  unfold frameEnvs
  exact mild_bind mild_stack fun _ => mild_pure _
theorem mild_import (env : Env) (outer : List Env) : Mild (behindIsImport env outer) := by
  unfold behindIsImport
  refine mild_ite (mild_pure _) (mild_ite (mild_pure _) ?_)
  exact mild_bind (mild_field _ _) fun _ => mild_pure _
theorem mild_back (env : Env) (b : Bool) : ∀ outer : List Env, Mild (keptBack env b outer)
  | [] => by
    unfold keptBack
    refine mild_ite (mild_pure _) (mild_bind mild_caller fun _ => mild_pure _)
  | _ :: _ => by
    unfold keptBack
    exact mild_pure _
theorem mild_ready : ∀ l : List Env, Mild (readyFrames l)
  | [] => by
    unfold readyFrames
    exact mild_pure _
  | env :: outer => by
    unfold readyFrames
    split
    · refine mild_bind (mild_load _) fun o => mild_ite (mild_pure _) ?_
      refine mild_bind (mild_import _ _) fun i => mild_bind (mild_back _ _ _) fun b => ?_
      refine mild_bind (mild_update fun o' ho => ⟨?_, rfl⟩) fun _ => mild_ready outer
      obtain ⟨c, d, dt, sl⟩ := o'
      cases dt <;> first | exact ho | rfl
    · exact mild_unsupported _
theorem mild_frameObj : ∀ l : List Env, Mild (frameObject l)
  | [] => by
    unfold frameObject
    exact mild_pure _
  | env :: outer => by
    unfold frameObject
    exact mild_bind (mild_ready _) fun _ => mild_pure _
theorem mild_frameOf (env : Env) : Mild (PySem.frameOf env) := by
  unfold PySem.frameOf
  refine mild_bind mild_envs fun l => mild_bind (mild_frameObj _) fun f => ?_
  split
  · exact mild_pure _
  · exact mild_unsupported _
theorem mild_place (f : Addr) (b : Bool) : Mild (entryPlaceOf f b) := by
  unfold entryPlaceOf
  refine mild_bind mild_stack fun l => ?_
  split
  · exact mild_pure _
  · exact mild_pure _
theorem mild_newFields (ty : String) (vs : List Value) : Mild (newFields ty vs) := by
  unfold newFields newObj newObjAsIs
  dsimp only
  refine mild_ite (mild_unsupported _) ?_
  exact mild_bind (mild_alloc _) fun a => mild_pure _
theorem mild_note (e : Value) (env : Env) : Mild (noteFrame e env) := by
  have last : ∀ (f : Addr) (head : Value), Mild (do setField e 1 (← EntryCells.newEntry head (← PySem.frameOf env) .none (rawInt f) .none (← entryPlaceOf f (head != .none)))) := fun f head =>
    mild_bind (mild_frameOf _) fun a => mild_bind (mild_place _ _) fun pl => mild_bind (mild_newFields _ _) fun b => mild_setField _ _ _
  unfold noteFrame
  split
  · refine mild_bind (mild_field _ _) fun head => mild_ite ?_ (last _ _)
    exact mild_bind (mild_field _ _) fun x => mild_ite (mild_pure _) (mild_bind (mild_setField _ _ _) fun _ => last _ _)
  · exact mild_unsupported _
theorem mild_leaving (env : Env) (e : Value) : Mild (leaving env e) := by
  unfold leaving
  exact mild_bind (mild_note _ _) fun _ => mild_setFlight _ _
theorem Mild.any {α : Type} {t : Sem α} (m : Mild t) {M : Model} {A : Around} {Q : α → Shared → Prop} {E : Value → Shared → Prop} {s : Shared} (h : wpAny M A t Q E s) : wpAny M A t (fun a s' => Q a s' ∧ DictKept s.heap s'.heap) (fun e s' => E e s' ∧ DictKept s.heap s'.heap) s :=
  fun Γ p hΓ => m M Γ _ _ p s (h Γ p hΓ)
end L2
set_option Elab.async false
set_option linter.all false
set_option maxRecDepth 100000
set_option maxHeartbeats 1000000
namespace L2
open PySem PySem.Spec PyProof.Rows
def excO (C t : Addr) : Obj := { cls := .ref C, data := .fields #[.ref t, .none, .none, .none, .bool false, .none] }
def tupO (vs : List Value) : Obj := { cls := .type "tuple", data := .seq vs.toArray }
section
variable {prog : Program} {w : World} {A : Around} {E : Value → Shared → Prop} {hp : Heap} {g : Array GenState} {d : Drawn} {tk : Nat} {os : OsState}
variable {nm q : Str} {C N : Addr} {bs bm bmB bmN : List Value} {hdct ab : Bool} {sn : List Str} {sub : List Value} {col : Option Bool} {dd : Option Addr} {k0 k1 k2 k3 k5 : Option Value} {B Bn newId nid initId inN : String} {mN : Str → Option Value} {rest : List Value} {fI : Addr} {oI : Obj}
theorem made_two (hC : hp.get? C = some (excClassObj nm q C N bs bm hdct sn sub ab col dd k0 k1 k2 k3 k5 newId)) :
    ((hp.push (tupO rest)).push (excO C hp.objs.size)).get? C = some (excClassObj nm q C N bs bm hdct sn sub ab col dd k0 k1 k2 k3 k5 newId) ∧
    ((hp.push (tupO rest)).push (excO C hp.objs.size)).get? (hp.objs.size + 1) = some (excO C hp.objs.size) ∧ ∀ b o, hp.get? b = some o → ((hp.push (tupO rest)).push (excO C hp.objs.size)).get? b = some o := by
  refine ⟨Heap.get?_push_of_some _ (Heap.get?_push_of_some _ hC), ?_, fun b o e => Heap.get?_push_of_some _ (Heap.get?_push_of_some _ e)⟩
  exact Heap.get?_push_at (by rw [Heap.size_push]) rfl
theorem type_call_init (Fn : ExcBaseFacts Bn newId inN bmN) (hBn : bmB.contains (.type Bn) = true) (FB : ExcBaseFacts B nid initId bmB) (T : OwnTail hp bmB bm) {Q : Fin → Shared → Prop}
    (hC : hp.get? C = some (excClassObj nm q C N bs bm hdct sn sub ab col dd k0 k1 k2 k3 k5 newId)) (hn : hp.Ns N mN) (hi : mN "__init__" = some (.ref fI)) (ho : hp.get? fI = some oI) (hc : oI.cls = .type "function")
    (hq : wpAny (model prog w) A (call (.ref fI) (.ref (hp.objs.size + 1) :: rest)) (fun r s' => r = .none ∧ Q (.done (.ret (.ref (hp.objs.size + 1)))) s') E ⟨(hp.push (tupO rest)).push (excO C hp.objs.size), g, d, tk, os⟩) (hr : rest.length ≤ sizeLine) :
    wpAny (model prog w) A (Builtin.«type.__call__» ⟨.ref C :: rest, []⟩) Q E ⟨hp, g, d, tk, os⟩ := by
  obtain ⟨hC', hget, kp⟩ := made_two (rest := rest) hC
  repeat (first | with_reducible refine wpAny_loadPart_at hC ?_ | with_reducible refine wpAny_madeBy_exc hC ?_ | wp_step)
  have quiet := Code.quiet_builtin ⟨.ref C :: rest, []⟩ Fn.quiet
  refine codeAny_call_builtin_code quiet ?_
  refine wpAny_check_new_subU Fn hBn T hC ?_
  refine codeAny_exc_new_subU (hrest := hr) Fn hBn FB T hC ?_
  change wpAny _ _ _ _ _ ⟨(hp.push (tupO rest)).push (excO C hp.objs.size), g, d, tk, os⟩
  have self : (Value.ref C :: bm).contains (.ref C) = true := by rw [List.contains_cons, beq_self_eq_true, Bool.true_or]
  have hn' : ((hp.push (tupO rest)).push (excO C hp.objs.size)).Ns N mN := hn.keeps kp
  have T' := T.keeps kp
  have ho' := kp _ _ ho
  generalize (hp.push (tupO rest)).push (excO C hp.objs.size) = h2 at hC' hget hn' T' ho' hq
  unfold isInstance
  repeat (first | (with_reducible refine wpAny_loadPart_at hget ?_; rw [show (excO C hp.objs.size).cls = .ref C from rfl]) | (with_reducible refine wpAny_isSubtype_exc hC' ?_; rw [self]) | wp_step)
  change wpAny _ _ (typeLookup (.ref C) _) _ _ _
  refine wpAny_typeLookup_tail hC' hn' T' FB.mroIs FB.init.lookup ?_
  rw [hi]
  refine wpAny_holding (wpAny_bind ?_)
  unfold bindSpecial
  have isF : (⟨h2, g, d, tk, os⟩ : Shared).TypeIs (.ref fI) "function" := ⟨_, ho', hc⟩
  refine wpAny_bind (wpAny_typeOf isF ?_)
  rw [if_pos (by decide)]
  refine wpAny_pure (wpAny_bind (wpAny_mono hq (fun r s' z => ?_) fun _ _ z => z))
  obtain ⟨rfl, z⟩ := z
  wp_walk
  exact z
theorem call_own_init (Fn : ExcBaseFacts Bn newId inN bmN) (hBn : bmB.contains (.type Bn) = true) (FB : ExcBaseFacts B nid initId bmB) (T : OwnTail hp bmB bm) {Q : Value → Shared → Prop}
    (hC : hp.get? C = some (excClassObj nm q C N bs bm hdct sn sub ab col dd k0 k1 k2 k3 k5 newId)) (hn : hp.Ns N mN) (hi : mN "__init__" = some (.ref fI)) (ho : hp.get? fI = some oI) (hc : oI.cls = .type "function")
    (hq : wpAny (model prog w) (A.under (.builtin "type.__call__" ⟨.ref C :: rest, []⟩)) (call (.ref fI) (.ref (hp.objs.size + 1) :: rest)) (fun r s' => r = .none ∧ Q (.ref (hp.objs.size + 1)) s') E ⟨(hp.push (tupO rest)).push (excO C hp.objs.size), g, d, tk, os⟩) (hr : rest.length ≤ sizeLine) :
    wpAny (model prog w) A (call (.ref C) rest) Q E ⟨hp, g, d, tk, os⟩ := by
  have b1 := tc_bind (.ref C)
  have b0 := tc_lookup
  have ty : (⟨hp, g, d, tk, os⟩ : Shared).TypeIs (.ref C) "type" := ⟨_, hC, rfl⟩
  refine wpAny_call (codeAny_of_tree ?_)
  change wpAny _ _ (callAny (.ref C) _) _ _ _
  repeat (any_goals (first | assumption | with_reducible refine wpAny_loadPart_at hC ?_ | wp_step))
  refine ⟨rfl, ?_⟩
  refine codeAny_call_builtin_at (Code.quiet_builtin _ (by decide +kernel)) entry_typeCall ?_
  exact wpAny_check_type_call_sub hC (type_call_init Fn hBn FB T hC hn hi ho hc hq hr)
theorem raise_made {env : Env} {s : Shared} {x : Sem Value} {Q : Flow → Shared → Prop} (hb : (Value.ref C :: bm).contains (.type "BaseException") = true) (hh : A.handled = none)
    (h : wpAny (model prog w) A x (fun v s1 => ∃ e oe vs, v = .ref e ∧ s1.heap.get? C = some (excClassObj nm q C N bs bm hdct sn sub ab col dd k0 k1 k2 k3 k5 newId) ∧ s1.heap.get? e = some oe ∧ oe.cls = .ref C ∧ oe.data = .fields vs ∧ vs[1]? = some .none ∧ E (.ref e) s1) E s) :
    wpAny (model prog w) A (raiseStmt env (some x) none) Q E s := by
  unfold raiseStmt
  refine wpAny_bind (wpAny_mono h ?_ fun _ _ z => z)
  rintro v s1 ⟨e, oe, vs, rfl, hC, he, hcls, hd, h1, hE⟩
  obtain ⟨h2, g2, d2, tk2, os2⟩ := s1
  repeat (first | (with_reducible refine wpAny_loadPart_at he ?_; rw [hcls]) | with_reducible refine wpAny_loadPart_at hC ?_ | (with_reducible refine wpAny_isSubtype_exc hC ?_; rw [hb]) | with_reducible refine wpAny_field he hd h1 ?_ | wp_step)
  exact wpAny_raiseNew_none hh hE
end
end L2
set_option Elab.async false
set_option linter.all false
set_option maxRecDepth 100000
set_option maxHeartbeats 1000000
namespace L2
open PySem PySem.Spec PyProof.Rows PySem.W
theorem slot_wd_get : Slot "wrapper_descriptor" "__get__" "wrapper_descriptor.__get__" := .of (owner := "wrapper_descriptor") (n := "__get__") (by rw [typeLookup_type, builtinLookup_eq_fast]; kernel_rfl) (by decide +kernel) (by decide +kernel) (by decide +kernel)
  (by first | exact .inl (by decide +kernel) | exact .inr (by decide +kernel)) (by rw [isSubtype_type]; kernel_rfl)
theorem entry_wd_get : entryFor table "wrapper_descriptor.__get__" = some Builtin.«wrapper_descriptor.__get__» := entryFor_of_tree (by kernel_rfl)
theorem args_wd_get (a b c : Value) : argsOk "wrapper_descriptor.__get__" ⟨[a, b, c], []⟩ := by unfold argsOk; kernel_rfl
theorem ty_init : typeOf (.builtin "ValueError.__init__") = pure (.type "wrapper_descriptor") := by kernel_rfl
section
variable {prog : Program} {w : World} {M : Model} {A : Around} {E : Value → Shared → Prop} {h : Heap} {g : Array GenState} {d : Drawn} {t : Nat} {os : OsState}
theorem super_ga_init {so D x C : Addr} {l₀ l : List Value} {K : Frag} {tk : Tok} {Q : Fin → Shared → Prop}
    (hso : h.get? so = some { cls := .type "super", dict := none, data := .fields #[.ref D, .ref x, .ref C], slots := #[] }) (hno : Looks (model prog w) h (opaqueClassAbove (.ref C)) none)
    (hC : Looks (model prog w) h (mroOf (.ref C)) l₀) (hl : (l₀.dropWhile (· != .ref D)).drop 1 = l) (X : K.In h)
    (hf : alongIn K "__init__" l = some (some (.builtin "ValueError.__init__"))) (hxC : x ≠ C)
    {ox : Obj} (hx : h.get? x = some ox) (hxc : ox.cls = .ref C) (hsub : Looks (model prog w) h (isSubtype (.ref C) (.type "ValueError")) true)
    (hq : Q (.done (.ret (.ref h.objs.size))) ⟨h.push { cls := .type "method-wrapper", data := .fields #[.builtin "ValueError.__init__", .ref x] }, g, d, t, os⟩) :
    wpAny (model prog w) A (Builtin.«super.__getattribute__» ⟨[.ref so, .str "__init__" tk], []⟩) Q E ⟨h, g, d, t, os⟩ := by
  have hlk := slot_wd_get.lookup
  have hne : (Value.ref x == Value.ref C) = false := by simp [hxC]
  have hn : (("__init__" : Str) == ("__class__" : Str)) = false := by decide
  have hdt : ({ cls := .type "super", dict := none, data := .fields #[.ref D, .ref x, .ref C], slots := #[] } : Obj).data = .fields #[.ref D, .ref x, .ref C] := rfl
  have f0 : (#[.ref D, .ref x, .ref C] : Array Value)[0]? = some (.ref D) := rfl
  have f1 : (#[.ref D, .ref x, .ref C] : Array Value)[1]? = some (.ref x) := rfl
  have f2 : (#[.ref D, .ref x, .ref C] : Array Value)[2]? = some (.ref C) := rfl
  unfold Builtin.«super.__getattribute__»
  repeat (first
    | (with_reducible refine wpAny_field hso hdt f0 ?_) | (with_reducible refine wpAny_field hso hdt f1 ?_) | (with_reducible refine wpAny_field hso hdt f2 ?_)
    | (with_reducible refine ks_wpAny_notOpaque hno ?_)
    | (with_reducible refine Looks.at hC ?_; rw [hl])
    | (refine ks_forIn_along X (fun _ _ => rfl) rfl ?_ hf)
    | (simp only [hn, hne, Bool.or_false, Bool.false_eq_true, if_false])
    | wp_step
    | dsimp only)
  rw [show builtinKind "ValueError.__init__" = some Manifest.AttrKind.slot from by decide +kernel]
  refine wpAny_of_eq hlk ?_
  have hT : (⟨h, g, d, t, os⟩ : Shared).TypeIs (.builtin "ValueError.__init__") "wrapper_descriptor" := ty_init
  have ow : ".".intercalate (("ValueError.__init__".cutAt '.').dropLast) = "ValueError" := by decide +kernel
  dsimp only
  repeat (first
    | (with_reducible refine wpAny_call_entry slot_wd_get hT entry_wd_get ?_ (args_wd_get _ _ _))
    | (with_reducible refine wpAny_loadPart_at hx ?_)
    | (rw [ow, hxc]; with_reducible refine Looks.at hsub ?_)
    | (with_reducible refine ⟨_, rfl, ?_⟩)
    | wp_step
    | dsimp only)
  all_goals exact hq
theorem getMethod_super_init {so D x C : Addr} {l₀ l : List Value} {K : Frag} {pl : Sem Bool} {Q : Value × List Value → Shared → Prop}
    (hso : h.get? so = some { cls := .type "super", dict := none, data := .fields #[.ref D, .ref x, .ref C], slots := #[] }) (hno : Looks (model prog w) h (opaqueClassAbove (.ref C)) none)
    (hC : Looks (model prog w) h (mroOf (.ref C)) l₀) (hl : (l₀.dropWhile (· != .ref D)).drop 1 = l) (X : K.In h)
    (hf : alongIn K "__init__" l = some (some (.builtin "ValueError.__init__"))) (hxC : x ≠ C)
    {ox : Obj} (hx : h.get? x = some ox) (hxc : ox.cls = .ref C) (hsub : Looks (model prog w) h (isSubtype (.ref C) (.type "ValueError")) true)
    (hq : Q (.ref h.objs.size, []) ⟨h.push { cls := .type "method-wrapper", data := .fields #[.builtin "ValueError.__init__", .ref x] }, g, d, t + 1, os⟩) :
    wpAny (model prog w) A (getMethod (.ref so) "__init__" pl) Q E ⟨h, g, d, t, os⟩ := by
  have hlk := F.ks_slot_super_ga.lookup
  have hcan := F.ks_canon_super_ga
  have hT : ∀ t', (⟨h, g, d, t', os⟩ : Shared).TypeIs (.ref so) "super" := fun _ => ⟨_, hso, rfl⟩
  unfold getMethod
  refine wpAny_bind (wpAny_specialOf (hT _) hlk ?_)
  show wpAny _ _ (if (Manifest.canonical "super.__getattribute__" != "object.__getattribute__") = true then _ else _) _ _ _
  rw [if_pos hcan]
  unfold getAttr getAttrBy
  refine wpAny_bind (wpAny_bind (wpAny_mkText (wpAny_holding (wpAny_bind (wpAny_typeOf (hT _) (wpAny_bind (wpAny_of_eq hlk ?_)))))))
  show wpAny _ _ (getAttrByItsOwn (.ref so) (.str "__init__" t) (.type "super") (.builtin "super.__getattribute__") true false) _ _ _
  unfold getAttrByItsOwn hookBefore callGetattribute boundAndCalled
  refine wpAny_bind (wpAny_of_eq (show (if onTheHeap (.type "super") then typeLookup (.type "super") "__getattr__" else pure none) = pure none from rfl) ?_)
  refine wpAny_bind (wpAny_attempt (wpAny_holding ?_))
  show wpAny _ _ (bindSpecial (.builtin "super.__getattribute__") (.ref so) >>= _) _ _ _
  refine wpAny_bind (wpAny_of_eq (F.ks_slot_super_ga.bind _) ?_)
  refine wpAny_mono (Q := fun v s' => v = .ref h.objs.size ∧ s' = ⟨h.push { cls := .type "method-wrapper", data := .fields #[.builtin "ValueError.__init__", .ref x] }, g, d, t + 1, os⟩) (E := fun _ _ => False)
    (wpAny_call_entry F.ks_slot_super_ga (hT _) F.ks_entry_super_ga (super_ga_init hso hno hC hl X hf hxC hx hxc hsub ⟨_, rfl, rfl, rfl⟩) (F.ks_gaArgs_super _ _)) (fun v s' hv => ?_) fun _ _ z => z.elim
  obtain ⟨rfl, rfl⟩ := hv
  exact wpAny_pure (wpAny_pure hq)
end
section
variable {prog : Program} {w : World} {A : Around} {E : Value → Shared → Prop} {h : Heap} {g : Array GenState} {d : Drawn} {t : Nat} {os : OsState}
variable {nm q : Str} {C N : Addr} {bs bm bmB bmN : List Value} {hdct ab : Bool} {sn : List Str} {sub : List Value} {col : Option Bool} {dd : Option Addr} {k0 k1 k2 k3 k5 : Option Value} {newId : String}
theorem check_bound_init (T : OwnTail h [.type "ValueError", .type "Exception", .type "BaseException", .type "object"] bm) {M : Model} {e : Addr} {oe : Obj} {rest : List Value} {Q : Unit → Shared → Prop}
    (hC : h.get? C = some (excClassObj nm q C N bs bm hdct sn sub ab col dd k0 k1 k2 k3 k5 newId)) (he : h.get? e = some oe) (hcls : oe.cls = .ref C) (hq : Q () ⟨h, g, d, t, os⟩) :
    wpAny M A (checkBoundCall "ValueError.__init__" ⟨.ref e :: rest, []⟩) Q E ⟨h, g, d, t, os⟩ := by
  have FB := PySem.F.excBase_ValueError
  have ic := FB.initKind
  have ir := FB.initRow
  have hcB : (Value.ref C :: bm).contains (.type "ValueError") = true := by rw [List.contains_cons, T.hasType FB.hasB, Bool.or_true]
  have hshort := FB.noStar
  unfold checkBoundCall
  simp only [ic, ir]
  rw [if_pos (by decide)]
  unfold Bind.checkArgs
  repeat (first | (with_reducible refine wpAny_loadPart_at he ?_; rw [hcls]) | with_reducible refine wpAny_loadPart_at hC ?_ | (with_reducible refine wpAny_isSubtype_exc hC ?_; rw [hcB]) | wp_step)
  refine wpAny_onRaise ?_
  rw [show ∀ (a b : String) (n : Nat), Bind.check ⟨.positional, "*", "ValueError", .self, [⟨"args", .varPos, false⟩]⟩ a b n (List.map (fun x => x.fst) ({ pos := Value.ref e :: rest } : Args).kw) = pure () from
    fun a b n => check_star_args _ _ _ _ _ _]
  exact wpAny_pure hq
theorem code_mw_init (T : OwnTail h [.type "ValueError", .type "Exception", .type "BaseException", .type "object"] bm) {b x t0 : Addr} {rest : List Value} {R : Result → Shared → Prop}
    (hC : h.get? C = some (excClassObj nm q C N bs bm hdct sn sub ab col dd k0 k1 k2 k3 k5 newId)) (hb : h.get? b = some { cls := .type "method-wrapper", data := .fields #[.builtin "ValueError.__init__", .ref x] }) (hx : h.get? x = some (excO C t0)) (hl : rest.length ≤ sizeLine)
    (hq : ∀ h', (∀ a o, a ≠ x → h.get? a = some o → h'.get? a = some o) → h'.get? x = some (excO C h.objs.size) → h'.get? h.objs.size = some (tupO rest) → h'.objs.size = h.objs.size + 1 → R (.ok (.ret .none)) ⟨h', g, d, t, os⟩) : codeAny (model prog w) A (.call (.ref b) ⟨rest, []⟩) R ⟨h, g, d, t, os⟩ := by
  have FB := PySem.F.excBase_ValueError
  refine codeAny_of_tree ?_
  show wpAny _ A.in1 (callAny (.ref b) ⟨rest, []⟩) _ _ _
  unfold callAny
  refine wpAny_bind (wpAny_load hb ?_)
  show wpAny _ _ (checkBoundCall "ValueError.__init__" ⟨.ref x :: rest, []⟩ >>= fun _ => again (Code.builtin "ValueError.__init__" ⟨.ref x :: rest, []⟩)) _ _ _
  refine wpAny_bind (check_bound_init T hC hx rfl ?_)
  refine wpAny_pure ⟨Code.quiet_builtin _ (by decide +kernel), ?_⟩
  refine codeAny_builtin FB.initEntry ?_
  unfold Builtin.«BaseException.__init__»
  have hx' := Heap.get?_push_of_some { cls := .type "tuple", data := .seq rest.toArray } hx
  have hlt := Heap.lt_size hx
  repeat (first | (with_reducible refine wpAny_field hx' rfl rfl ?_) | wp_step | dsimp only)
  have ne : x ≠ h.objs.size := Nat.ne_of_lt hlt
  refine hq _ (fun a o n e => ?_) ?_ ?_ ?_
  · rw [Heap.get?_update_other _ _ (Ne.symm n)]
    exact Heap.get?_push_of_some _ e
  · rw [Heap.get?_update_self _ hx' rfl]
    rfl
  · rw [Heap.get?_update_other _ _ ne]
    exact Heap.get?_push_size _ rfl
  · simp [Heap.size_push]
end
end L2
set_option Elab.async false
set_option linter.all false
set_option maxRecDepth 100000
set_option maxHeartbeats 1000000
namespace L2
open PySem PySem.Spec PyProof.Rows PySem.W PySem.Builtin PySem.Builtin.ObjectAttr
abbrev bmVE : List Value := [.type "ValueError", .type "Exception", .type "BaseException", .type "object"]
def dropRefs : List Value → List Value
  | .ref _ :: l => dropRefs l
  | l => l
theorem refuse_refs {self : Value} {what : Str} : ∀ {l bm : List Value}, dropRefs l = bm → refuseLoop self what l = refuseLoop self what bm
  | [], _, e => by cases e; rfl
  | v :: l, bm, e => by
    cases v with
    | ref a => rw [refuseLoop_ref]; exact refuse_refs (l := l) e
    | _ => cases e; rfl
def excD (C t : Addr) (dct : Option Addr) : Obj := { cls := .ref C, dict := dct, data := .fields #[.ref t, .none, .none, .none, .bool false, .none] }
structure XSt (K : Frag) (C : Addr) : Prop where
  sa : findIn K (.ref C) "__setattr__" = some (some (.builtin "object.__setattr__"))
  ob : mroIn K C (.type "object") = some true
  over : (clsIn K C).any (fun cd => dropRefs cd.mro == bmVE) = true
  hd : (clsIn K C).any (·.hasDict) = true
section
variable {prog : Program} {w : World} {A : Around} {E : Value → Shared → Prop} {s : Shared} {K : Frag} {x t C : Addr} {name : Str} {v : Value}
theorem xset {Q : Unit → Shared → Prop} (X : K.In s.heap) (S : XSt K C) (hx : s.heap.get? x = some (excD C t none)) (hn : findIn K (.ref C) name = some none)
    (hq : ∀ h' tk, h'.get? x = some (excD C t (some s.heap.objs.size)) → h'.Ns1 s.heap.objs.size (fun y => if y = name then some v else none) → (∀ b o, b ≠ x → s.heap.get? b = some o → h'.get? b = some o) → Q () { s with heap := h', toks := tk }) :
    wpAny (model prog w) A (setAttr (.ref x) name v) Q E s := by
  have SF := PySem.F.store_object
  obtain ⟨cd, hc, ho⟩ := any_some S.over
  obtain ⟨cd', hc', hD⟩ := any_some S.hd
  obtain rfl : cd = cd' := Option.some.inj (hc.symm.trans hc')
  have J : InstAt s.heap x (excD C t none) C none := ⟨hx, rfl, rfl, trivial⟩
  refine set_plain X J S.sa ?_
  obtain ⟨hp, g, d, tk0, os⟩ := s
  have isO : Looks (model prog w) hp (isInstance (.ref x) (.type "object")) true := J.type.andThen (looks_mroIn X S.ob)
  refine codeAny_call_builtin SF.slot.plain SF.entry (@check_slot (model prog w) _ _ ⟨hp, g, d, tk0 + 1, os⟩ "object.__setattr__" "object" "__setattr__" (.ref x) [.str name tk0, v] [] _ SF.kind SF.split isO (SF.args _ _ _) ?_)
  have mroL : Looks (model prog w) hp (mroOf (.ref C)) cd.mro := (looks_clsIn X hc).andThen .now
  rw [osa_eq, refuse_eq]
  refine wpAny_bind (wpAny_bind (J.type.at (wpAny_bind (mroL.at ?_))))
  rw [refuse_refs (beq_iff_eq.mp ho), PySem.F.store_ValueError.passes]
  refine wpAny_pure (wpAny_bind (J.type.at (wpAny_bind ((looks_findIn X hn).at (wpAny_bind (wpAny_pure ?_))))))
  show wpAny _ _ (storeInOwnDict (.ref x) (.ref C) (.str name tk0) name v false) _ _ _
  unfold storeInOwnDict
  refine wpAny_bind (wpAny_pure ?_)
  rw [if_neg (by simp)]
  show wpAny _ _ (instanceDict x true >>= _) _ _ _
  unfold instanceDict
  refine wpAny_bind (wpAny_bind (wpAny_loadPart hx (wpAny_bind ((looks_clsIn X hc).at ?_))))
  rw [hD]
  have xs : x ≠ hp.objs.size := Nat.ne_of_lt (Heap.lt_size hx)
  have hx1 : (hp.push { cls := .type "dict", data := .dict #[] }).get? x = some (excD C t none) := Heap.get?_push_of_some _ hx
  refine wpAny_bind (wpAny_alloc' ?_)
  refine wpAny_bind (wpAny_update' hx1 ?_)
  refine wpAny_pure ?_
  show wpAny _ _ (storeInDict hp.objs.size (.str name tk0) name v) _ _ _
  generalize hh2 : Heap.update (hp.push { cls := .type "dict", data := .dict #[] }) x (fun o => { o with dict := some hp.objs.size }) = h2
  have x2 : h2.get? x = some (excD C t (some hp.objs.size)) := by
    rw [← hh2]
    exact Heap.get?_update_self _ hx1 rfl
  have k2 : ∀ b o, b ≠ x → hp.get? b = some o → h2.get? b = some o := fun b o n e => by
    rw [← hh2]
    exact (Heap.get?_update_ne _ _ _ _ n).trans (Heap.get?_push_of_some _ e)
  have d2 : h2.get? hp.objs.size = some { cls := .type "dict", data := .dict #[] } := by
    rw [← hh2]
    exact (Heap.get?_update_ne _ _ _ _ xs.symm).trans (Heap.get?_push_at rfl rfl)
  have n2 : h2.Ns1 hp.objs.size (fun _ => none) := Heap.Ns1.of_empty ⟨_, #[], _, d2, rfl, fun e he => absurd he (by simp), fun _ => rfl⟩
  clear hh2 hx1
  unfold storeInDict
  refine wpAny_bind (wpAny_pure (wpAny_bind (wpAny_nsSet1 n2 fun h' n' sb => ?_)))
  obtain ⟨oD, esD, epD, hoD, hdD, hcD⟩ := n'.count (PySem.Within.cons name v PySem.Within.nil)
  have few : esD.size ≤ sizeLine + 1 := Nat.le_trans hcD (by rw [List.length_cons, List.length_nil, sizeLine_eq]; omega)
  refine wpAny_bind (wpAny_lookBehind hoD (by rw [hdD]; exact pastItsLine_dict few) ?_)
  refine wpAny_pure ?_
  exact hq h' _ ((sb.2 x xs).trans x2) n' fun b o n e => (sb.2 b (Nat.ne_of_lt (Heap.lt_size e))).trans (k2 b o n e)
end
end L2
set_option Elab.async false
set_option linter.all false
set_option maxRecDepth 100000
set_option maxHeartbeats 1000000
namespace L2
open PySem PySem.Spec PyProof.Rows
section
variable {X : Cx}
end
end L2
set_option Elab.async false
set_option linter.all false
set_option maxRecDepth 100000
set_option maxHeartbeats 1000000
namespace L2
open PySem PySem.Spec PyProof.Rows
section
variable {X : Cx} {k : Nat} {C : Addr} {m f : Str} {ps : List Str} {sp : Sp} {ta tv : TE} {t : TA} {o e value : Expr} {es : List Expr} {pos pos' apos tpos : Pos}
theorem PE.sub {a : Expr} {t1 t2 : TE} (h : PE X a t1) (i : ∀ σ H Q, t2 σ H Q → t1 σ H Q) : PE X a t2 := fun pins s σ H Q I q => h pins s σ H Q I (i σ H Q q)
end
end L2
set_option Elab.async false
set_option linter.all false
set_option maxRecDepth 100000
set_option maxHeartbeats 1000000
namespace L2
open PySem PySem.Spec PyProof.Rows
theorem lookup_nd {x : Str} {u : Value} : ∀ {l : List (Str × Value)}, (l.map (·.1)).Nodup → (x, u) ∈ l → l.lookup x = some u
  | [], _, h => by cases h
  | (y, v) :: l, nd, h => by
    rw [List.map_cons, List.nodup_cons] at nd
    rcases List.mem_cons.mp h with e | e
    · cases e
      simp [List.lookup_cons]
    · have n : x ≠ y := fun z => nd.1 (z ▸ List.mem_map_of_mem (f := (·.1)) e)
      rw [List.lookup_cons, show (x == y) = false by simp [n]]
      exact lookup_nd nd.2 e
theorem zip_rev {x : Str} {u : Value} {N : List Str} {us : List Value} {i : Nat} (nd : N.Nodup) (hl : us.length = N.length) (h1 : N[i]? = some x) (h2 : us[i]? = some u) : (N.zip us).reverse.lookup x = some u := by
  refine lookup_nd ?_ (List.mem_reverse.mpr ?_)
  · rw [List.map_reverse]
    refine (List.reverse_perm _).nodup_iff.mpr ?_
    rw [List.map_fst_zip (by omega)]
    exact nd
  · refine List.mem_iff_getElem?.mpr ⟨i, ?_⟩
    rw [List.getElem?_zip_eq_some]
    exact ⟨h1, h2⟩
structure SupScope (N : List Str) (sc : Scope) : Prop where
  kind : sc.kind = .function
  co : sc.isCoroutine = false
  gen : sc.isGenerator = false
  nd : N.Nodup
  par : ∀ x ∈ N, sc.names.lookup x = some .local
  nocell : ∀ x ∈ sc.names, x.2 ≠ .cell
  onlyf : ∀ x ∈ sc.names, x.2 = .free → x.1 = "__class__"
section
variable {P : Program} {w : World} {K : PySem.W.Frag} {mg : Str → Option Value} {base : Heap} {N : List Str} {qual : Str} {scope : Scope} {f cc : Addr} {cd u0 : Value} {A : Around} {outer : List Env} {s : Shared} {H : Hp} {E : XK} {CX : CXT} {vs : List V} {us : List Value}
theorem inv_startS (S : SupScope N scope) (hd : A.handled = none) (e0 : Env0 P w K mg base A outer s H) (hc : s.heap.IsCell cc (some u0)) (hn : H cc = none) (hl : vs.length = N.length) (r : Vals vs us) {h' : Heap} {tk : Tok}
    (hns : h'.Ns s.heap.objs.size (fun x => (N.zip us).reverse.lookup x)) (hk : ∀ b o, s.heap.get? b = some o → h'.get? b = some o) :
    Inv (cxC CX P w K mg base N qual scope f cd [("__class__", cc)] A outer s H E) [] (vs.map some) H { s with heap := h', toks := tk } := by
  have noA : ∀ b : Addr, b ∉ (cxC CX P w K mg base N qual scope f cd [("__class__", cc)] A outer s H E).ex := fun b z => absurd (show b ∈ ([] : List Addr) from z) (by simp)
  have one : ∀ {x : Str} {c : Addr}, ([("__class__", cc)] : List (Str × Addr)).lookup x = some c → x = "__class__" ∧ c = cc := fun {x c} h => by
    have q := PySem.mem_of_lookup h
    simp only [List.mem_singleton, Prod.mk.injEq] at q
    exact q
  refine ⟨⟨e0.mod, S.kind, rfl, rfl, Nat.le_refl _, fun y z c h1 h2 => (one h1).1.trans (one h2).1.symm, fun y hy => ?_, fun y c z _ => (by cases z), fun _ => hd, Around.frames_deeper e0.frames, .inr ⟨rfl, rfl⟩, fun b z => absurd z (noA b), e0.bs, e0.bsz, fun b _ _ => noA b, fun b z => absurd z (noA b), e0.funs, e0.frf⟩,
    rfl, e0.bare, Un.kept hk, ⟨_, hns, fun i y v' h1 h2 h3 => ?_⟩, fun y c h => ?_, e0.hok.fresh (Nat.le_refl _), fun y c h => ?_, fun q hq => absurd (show q ∈ ([] : List (Addr × Obj)) from hq) (by simp), e0.hok.kept hk, ?_⟩
  · have hy : scope.names.lookup y = some .cell ∨ scope.names.lookup y = some .free := hy
    rcases hy with hy | hy
    · exact absurd rfl (S.nocell _ (PySem.mem_of_lookup hy))
    · have q := S.onlyf _ (PySem.mem_of_lookup hy) rfl
      have q : y = "__class__" := q
      subst q
      exact ⟨cc, by simp [cxC, List.lookup]⟩
  · have h1 : N[i]? = some y := h1
    have h2 : (vs.map some)[i]? = some (some v') := h2
    rw [List.getElem?_map] at h2
    obtain ⟨z, ez, eq⟩ := Option.map_eq_some_iff.mp h2
    cases eq
    obtain ⟨u, hu, rv⟩ := r.get ez
    exact ⟨u, rv, .inl ⟨S.par y (List.mem_of_getElem? h1), zip_rev S.nd (by rw [← r.length]; exact hl) h1 hu⟩⟩
  · obtain ⟨rfl, rfl⟩ := one h
    obtain ⟨o, e1, e2⟩ := hc
    exact ⟨some u0, o, hk _ _ e1, e2⟩
  · obtain ⟨rfl, rfl⟩ := one h
    exact hn
  · show (vs.map some).length = N.length
    rw [List.length_map, hl]
end
def PEAt (X : Cx) (b0 : List Stmt) (e : Expr) (t : TE) : Prop := ∀ (pins : List (Addr × Obj)) (s : Shared) (σ : St) (H : Hp) (Q : VK), Inv X pins σ H s → t σ H Q → PySem.wpAt (model X.prog X.w) X.A (.func b0 X.env) (eval e X.env) (EP X pins σ Q) X.xe s
def PSAt (X : Cx) (b0 : List Stmt) (st : Stmt) (t : TS) : Prop := ∀ (pins : List (Addr × Obj)) (s : Shared) (σ : St) (H : Hp) (D : Ends), Inv X pins σ H s → t D σ H → PySem.wpAt (model X.prog X.w) X.A (.func b0 X.env) (exec st X.env) (SP X pins D) X.xe s
def PSsAt (X : Cx) (b0 : List Stmt) (st : List Stmt) (t : TS) : Prop := ∀ (pins : List (Addr × Obj)) (s : Shared) (σ : St) (H : Hp) (D : Ends), Inv X pins σ H s → t D σ H → PySem.wpAt (model X.prog X.w) X.A (.func b0 X.env) (execs st X.env) (SP X pins D) X.xe s
section
variable {X : Cx} {b0 rest sts : List Stmt} {st : Stmt} {t u : TS} {e : Expr} {te : TE} {pos : Pos}
theorem PS.at (h : PS X st t) : PSAt X b0 st t := fun pins s σ H D I q => PySem.wpAt_of_wpAny (h pins s σ H D I q)
theorem PSs.at (h : PSs X sts t) : PSsAt X b0 sts t := fun pins s σ H D I q => PySem.wpAt_of_wpAny (h pins s σ H D I q)
theorem pat_cons (h1 : PSAt X b0 st t) (h2 : PSsAt X b0 rest u) : PSsAt X b0 (st :: rest) (tSeq t u) := by
  intro pins s σ H D I h
  refine ks_wpAt_execs_cons (ks_wpAt_mono (h1 pins s σ H { D with nx := u D } I h) (fun f s1 q => ?_) fun _ _ z => z)
  cases f with
  | next =>
    obtain ⟨σ', H', I', q⟩ := q
    exact h2 pins s1 σ' H' D I' q
  | _ => exact q
theorem pat_one (h1 : PSAt X b0 st t) : PSsAt X b0 [st] t := by
  intro pins s σ H D I h
  refine ks_wpAt_execs_cons (ks_wpAt_mono (h1 pins s σ H D I h) (fun f s1 q => ?_) fun _ _ z => z)
  cases f with
  | next =>
    obtain ⟨σ', H', I', q⟩ := q
    exact PySem.wpAt_of_wpAny (wpAny_execs_nil ⟨σ', H', I', q⟩)
  | _ => exact q
theorem pat_expr (he : PEAt X b0 e te) (hs : swapsWith e none pos.line X.env = pure false := by rfl) : PSAt X b0 (.Expr e pos) (tDrop te) := by
  intro pins s σ H D I h
  exact ks_wpAt_Expr_any (ks_wpAt_mono (he pins s σ H _ I h) (fun v s1 ⟨x, H1, I1, r1, q1⟩ => ⟨σ, H1, I1, q1⟩) fun _ _ z => z) I.quiet hs
theorem PSsAt.nox (h : PSsAt X.nox b0 sts t) : PSsAt X b0 sts t := fun pins s σ H D I hw =>
  ks_wpAt_mono (h pins s σ H D (I.wish _) hw) (fun _ _ q => q.unwish) fun _ _ z => False.elim z
end
section
variable {X : Cx} {b0 : List Stmt} {k : Nat} {C f cc cda f2 : Addr} {fd fd2 : FuncData} {m slf : Str} {ps : List Str} {sp : Sp} {t : TA} {es : List Expr} {e : Expr} {pos p0 p1 apos : Pos}
end
structure FunS (K : PySem.W.Frag) (x qual : Str) (st : Stmt) (f cc cda : Addr) (fd : FuncData) : Prop where
  ex : ∃ (oc : Value) (od : Option Addr) (kV doc pm : Value) (an : Option Addr) (ct : Value) (osl : Array (Option Value)),
    fd = PySem.W.fnX x qual (defArgs st) (defBody st) (defScope st) [("__class__", cc)] .none kV doc pm an (.ref cda) ct ∧ K.lookup f = some ⟨oc, od, .func fd, osl⟩ ∧ PySem.W.codeIn K (.ref cda) qual = true
  kp : PySem.W.keepIn K (.ref f) = true
theorem FunS.ok {P : Program} {w : World} {K : PySem.W.Frag} {mg : Str → Option Value} {base : Heap} {x qual : Str} {st : Stmt} {f cc cda : Addr} {fd : FuncData} {N : List Str} {k : Nat} {sp : Sp} {u0 : Value} (F : FunS K x qual st f cc cda fd) (S : SupScope N (defScope st)) (hcell : ∃ cl cld csl, K.lookup cc = some ⟨cl, cld, .cell (some u0), csl⟩) (len : ∀ vs H Q E, sp vs H Q E → vs.length = N.length)
    (hbody : ∀ (A : Around) (outer : List Env) (s : Shared) (H : Hp) (vs : List V) (Q : VK) (E : XK), Room k (A.deeper (PySem.W.envX qual (defScope st) s.heap.objs.size f (.ref cda) [("__class__", cc)])) → s.heap.FunFrames base outer → sp vs H Q E →
      ∃ t, PSsAt (cxC CX0 P w K mg base N qual (defScope st) f (.ref cda) [("__class__", cc)] A outer s H E).nox (defBody st) (defBody st) t ∧ t { nx := fun _ H' => Q .non H', rt := Q } (vs.map some) H) : FnOk P w K mg base CX0 (k + 1) f fd N sp := by
  obtain ⟨oc, od, kV, doc, pm, an, ct, osl, rfl, lk, hcd⟩ := F.ex
  obtain ⟨cl, cld, csl, hcell⟩ := hcell
  refine ⟨len, fun A outer s H args us vs Q E hr e0 hb r hsp => ?_⟩
  have hl := len _ _ _ _ hsp
  have KX : K.In s.heap := e0.mod.kin.keeps fun b o e => (e0.bs b o e).1
  have lim : s.heap.NoLimit := e0.mod.nolimit.keeps fun b o e => (e0.bs b o e).1
  have hkind : ∀ y ∈ N.zip us, (defScope st).names.lookup y.1 = some .local := fun ⟨n, v⟩ hy => S.par n (List.of_mem_zip hy).1
  have hn : H cc = none := (e0.bs _ _ (e0.mod.kin _ _ hcell)).2
  refine ks_codeAny_call_defAt (body := defBody st) (binds := N.zip us) hr.depth (KX _ _ lk) rfl lim (PySem.W.codeRec_of KX hcd) rfl hb S.nocell hkind (fun h0 hns hk => ?_) S.co S.gen S.kind
  obtain ⟨t, ht, hq⟩ := hbody A outer s H vs Q E (hr.deeper _) e0.funs hsp
  have I : Inv (cxC CX0 P w K mg base N qual (defScope st) f (.ref cda) [("__class__", cc)] A outer s H E) [] (vs.map some) H { s with heap := h0, toks := s.toks + (N.zip us).length } := inv_startS S hr.hd e0 ⟨_, KX _ _ hcell, rfl⟩ hn hl r hns hk
  refine ks_wpAt_mono (ht.nox [] _ _ H _ I hq) (fun fl s' hs => ?_) fun e s' hs => hs
  have fin : ∀ {σ' : St} {H' : Hp} {v : V} {u : Value}, Inv (cxC CX0 P w K mg base N qual (defScope st) f (.ref cda) [("__class__", cc)] A outer s H E) [] σ' H' s' → RelV v u → Q v H' → CE outer P w H s Q u s' :=
    fun {σ' H' v u} J rv q => ⟨v, H', J.os, J.bare, J.base, J.hok, rv, q⟩
  cases fl with
  | ret u =>
    obtain ⟨v, σ', H', J, rv, q⟩ := hs
    exact fin J rv q
  | next =>
    obtain ⟨σ', H', J, q⟩ := hs
    exact fin (v := V.non) (u := Value.none) J rfl q
  | brk =>
    obtain ⟨_, _, _, q⟩ := hs
    exact False.elim q
  | cont =>
    obtain ⟨_, _, _, q⟩ := hs
    exact False.elim q
end L2
set_option Elab.async false
set_option linter.all false
set_option maxRecDepth 100000
set_option maxHeartbeats 1000000
namespace L2
open PySem PySem.Spec PyProof.Rows
abbrev TF := St → Hp → (Str → Hp → Prop) → Prop
def PF (X : Cx) (e : Expr) (t : TF) : Prop := ∀ (pins : List (Addr × Obj)) (s : Shared) (σ : St) (H : Hp) (Q : Str → Hp → Prop), Inv X pins σ H s → t σ H Q →
  wpAny (model X.prog X.w) X.A (eval e X.env) (fun v s1 => ∃ y tk, v = .str y tk ∧ ∃ H1, Inv X pins σ H1 s1 ∧ Q y H1) (fun e s' => X.xe e s') s
theorem pf_const {X : Cx} {e : Expr} {x : Str} (h : PE X e (tC (.str x))) : PF X e (fun σ H Q => Q x H) := by
  intro pins s σ H Q I q
  refine thn (h pins s σ H (fun y H' => y = .str x ∧ H' = H) I ⟨rfl, rfl⟩) fun v s1 ⟨y, H1, I1, r1, e1, e2⟩ => ?_
  subst e1 e2
  obtain ⟨t, rfl⟩ := (show ∃ t, _ = Value.str x t from r1)
  exact ⟨x, t, rfl, _, I1, q⟩
theorem pf_int {X : Cx} {e : Expr} {te : TE} {p : Pos} (h : PE X e te) : PF X (.FormattedValue e (-1) none p) (fun σ H Q => te σ H fun v H1 => ∃ i : Int, v = .int i ∧ i.natAbs.log2 < 1920 ∧ Q (Str.ofString (toString i)) H1) := by
  intro pins s σ H Q I q
  refine wpAny_FormattedValue_plain (thn (h pins s σ H _ I q) fun v s1 ⟨y, H1, I1, r1, i, e1, hd, q1⟩ => ?_)
  subst e1
  obtain ⟨t, rfl⟩ := (show ∃ t, _ = Value.int i t from r1)
  exact wpAny_formatField_int hd ⟨_, _, rfl, H1, I1.tok _, q1⟩
abbrev TFs := Str → St → Hp → (Str → Hp → Prop) → Prop
def PFs (X : Cx) (es : List Expr) (u : TFs) : Prop := ∀ (pins : List (Addr × Obj)) (s : Shared) (σ : St) (H : Hp) (acc : Str) (Q : Str → Hp → Prop), Inv X pins σ H s → u acc σ H Q →
  Joins (model X.prog X.w) X.A X.xe (evalEach es X.env) acc (fun out s1 => ∃ H1, Inv X pins σ H1 s1 ∧ Q out H1) s
theorem pfs_nil {X : Cx} : PFs X [] (fun acc _ H Q => Q acc H) := by
  intro pins s σ H acc Q I q
  exact ⟨H, I, q⟩
theorem pfs_cons {X : Cx} {e : Expr} {es : List Expr} {t : TF} {u : TFs} (h : PF X e t) (hs : PFs X es u) : PFs X (e :: es) (fun acc σ H Q => t σ H fun y H1 => (acc ++ y).length ≤ sizeLine ∧ u (acc ++ y) σ H1 Q) := by
  intro pins s σ H acc Q I q
  show wpAny _ _ (eval e X.env) _ _ _
  refine thn (h pins s σ H _ I q) fun v s1 ⟨y, tk, e1, H1, I1, hl, q1⟩ => ?_
  exact ⟨y, tk, e1, hl, hs pins s1 σ H1 _ Q I1 q1⟩
theorem pe_fstr {X : Cx} {a b : Expr} {rest : List Expr} {u : TFs} {pos : Pos} (h : PFs X (a :: b :: rest) u) : PE X (.JoinedStr (a :: b :: rest) pos) (fun σ H Q => u Str.empty σ H fun out H1 => out.length ≤ sizeLine ∧ Q (.str out) H1) := by
  intro pins s σ H Q I q
  refine wpAny_JoinedStr ?_
  have := h pins s σ H Str.empty _ I q
  have mono : ∀ {parts : List (Sem Value)} {acc : Str} {s : Shared} {Q Q' : Str → Shared → Prop}, Joins (model X.prog X.w) X.A X.xe parts acc Q s → (∀ x s, Q x s → Q' x s) → Joins (model X.prog X.w) X.A X.xe parts acc Q' s := by
    intro parts
    induction parts with
    | nil => intro acc s Q Q' h k; exact k _ _ h
    | cons x r ih =>
      intro acc s Q Q' h k
      refine thn h fun v s1 ⟨y, t, e1, hl, h2⟩ => ⟨y, t, e1, hl, ih h2 k⟩
  refine mono this fun out s1 ⟨H1, I1, hl, q1⟩ => ⟨hl, .str out, H1, I1.tok _, ⟨_, rfl⟩, q1⟩
end L2
set_option Elab.async false
set_option linter.all false
set_option maxRecDepth 100000
set_option maxHeartbeats 1000000
namespace L2
open PySem PySem.Spec PyProof.Rows
def phN (a C : Addr) (dct : Option Addr) : Heap → Prop := fun h => ∃ t, h.get? a = some (excD C t dct)
theorem ext_phN {P : Program} {w : World} {H : Hp} {h : Heap} {a C : Addr} {dct : Option Addr} (x : phN a C dct h) : ObjOk P w H h a (.ext (phN a C dct)) := by
  obtain ⟨t, e⟩ := x
  exact ⟨⟨t, e⟩, ⟨_, e⟩, fun h1 h2 ⟨t, q⟩ k => ⟨t, k _ q⟩⟩
theorem upd_id {H : Hp} {a : Addr} {o : HO} (e : H a = some o) : upd H a o = H := by
  funext b
  unfold upd
  split
  · rename_i q; rw [q, e]
  · rfl
structure OwnI (C fI : Addr) (bmB : List Value) (nid : String) (h : Heap) : Prop where
  obj : ∃ bm N nm q bs hdct sn sub ab col dd k0 k1 k2 k3 k5 mN, h.get? C = some (excClassObj nm q C N bs bm hdct sn sub ab col dd k0 k1 k2 k3 k5 nid) ∧ h.Ns N mN ∧ mN "__init__" = some (.ref fI) ∧ OwnTail h bmB bm
structure SupE (P : Program) (K : PySem.W.Frag) (mg : Str → Option Value) (C f cc cda : Addr) : Prop where
  code : ∃ ccl cdd vs ccs file tf, K.lookup cda = some ⟨ccl, cdd, .fields vs, ccs⟩ ∧ vs[2]? = some (.str file tf) ∧ ((P.main.file : Str) == file) = true
  cell : ∃ cl cld csl, K.lookup cc = some ⟨cl, cld, .cell (some (.ref C)), csl⟩
  cls : ∃ cd, PySem.W.clsIn K C = some cd
  sub : PySem.W.mroIn K C (.ref C) = some true
  ve : PySem.W.mroIn K C (.type "ValueError") = some true
  no : PySem.W.nsIn K cStatics "thirdparty.any" = some none
  at_ : PySem.W.ks_superIn K C C "__init__" = some (some (.builtin "ValueError.__init__"))
  top : (P.main.scope.names.lookup ("super" : Str)).isSome = false
  blt : mg "super" = none
abbrev mwObj (x : Addr) : Obj := { cls := .type "method-wrapper", data := .fields #[.builtin "ValueError.__init__", .ref x] }
theorem keeps_mw {M : Model} {q x : Addr} (h : Heap) (e : h.get? q = some (mwObj x)) : ∃ k, (k = Keeper.frame ∨ k = Keeper.machine ∨ k = Keeper.boundFrame) ∧ PySem.W.Looks M h (keeperOf (.ref q)) k :=
  ⟨.machine, .inr (.inl rfl), (PySem.W.Looks.ld (part := none) e).andThen .now⟩
def tSupE (C : Addr) (t : TA) : TE := fun σ H Q => ∃ a, σ[0]? = some (some (.ref a)) ∧ H a = some (.ext (phN a C none)) ∧ t σ H fun vs H1 => H1 a = some (.ext (phN a C none)) ∧ vs.length ≤ sizeLine ∧ Q .non H1
section
variable {X : Cx} {b0 : List Stmt} {C f fI cc cda : Addr} {fd : FuncData} {nid : String} {t : TA} {es : List Expr} {e : Expr} {pos p0 p1 apos : Pos} {ar : Arg} {oc : Value} {od : Option Addr} {osl : Array (Option Value)} {pl : Sem Bool}
theorem supE_get {pins : List (Addr × Obj)} {s : Shared} {σ : St} {H : Hp} {a : Addr} {whole : Sem Value} {Q : Value → Shared → Prop} {k2 : Value × List Value → Sem Value}
    (A : SupE X.prog X.K X.mg C f cc cda) (hf : X.K.lookup f = some ⟨oc, od, .func fd, osl⟩) (hp : (fd.params.posonlyargs ++ fd.params.args).head? = some ar) (hN : X.N[0]? = some ar.arg)
    (hks : X.env.scope.names.lookup ("super" : Str) = some .globalImplicit) (hkc : X.env.scope.names.lookup ("__class__" : Str) = some .free) (hka : X.env.scope.names.lookup ar.arg = some .local) (hcl : X.env.cells.lookup ("__class__" : Str) = some cc)
    (hfu : X.env.func = some f) (hco : X.env.code = .ref cda)
    (I : Inv X pins σ H s) (h0 : σ[0]? = some (some (.ref a))) (ea : H a = some (.ext (phN a C none)))
    (h : ∀ q s', Inv X pins σ H s' → s'.heap.get? q = some (mwObj a) → s.heap.objs.size ≤ q → wpAny (model X.prog X.w) X.A (k2 (.ref q, [])) Q X.xe s') :
    PySem.wpAt (model X.prog X.w) X.A (.func b0 X.env) (attributeBase (.Call (.Name "super" p0) [] [] p1) "__init__" X.env whole) (fun ov s₁ => wpAny (model X.prog X.w) X.A (getMethod ov "__init__" pl) (fun fx s₂ => wpAny (model X.prog X.w) X.A (k2 fx) Q X.xe s₂) X.xe s₁) X.xe s := by
  have KX := I.kIn
  obtain ⟨ccl, cdd, vs, ccs, file, tf, hcode, hvs, hfile⟩ := A.code
  obtain ⟨cl, cld, csl, hcell⟩ := A.cell
  obtain ⟨cdD, hD⟩ := A.cls
  obtain ⟨t0, hx⟩ := (I.hok a _ ea).1
  obtain ⟨oD, hD1, hD2⟩ : ∃ oD, s.heap.get? C = some oD ∧ oD.data = .cls cdD := by
    unfold PySem.W.clsIn at hD
    split at hD
    · rename_i c d cd' sl ho
      cases hD
      exact ⟨_, KX _ _ ho, rfl⟩
    · cases hD
  obtain ⟨mm, hns, hloc⟩ := I.loc
  obtain ⟨u, ru, lu⟩ := hloc 0 ar.arg (.ref a) hN h0 (.inl hka)
  obtain rfl : u = .ref a := ru
  have hv : mm ar.arg = some (.ref a) := by
    rcases lu with ⟨_, z⟩ | ⟨z, _⟩
    · exact z
    · have z : X.env.scope.names.lookup ar.arg = some .cell ∨ X.env.scope.names.lookup ar.arg = some .free := z
      rw [hka] at z
      rcases z with z | z <;> cases z
  obtain ⟨mb, b1, b2⟩ := I.mod.blt
  refine ks_wpAt_super_base (env := X.env) hks hkc (by decide) hfu (KX _ _ hf) rfl hp hco (KX _ _ hcode) rfl hvs hfile A.top ?_
  refine PySem.W.ks_loadName_global I.ok.kind hks (Calls.loadGlobal_builtin (env := X.env) (by rw [I.ok.glob]; exact I.mod.glob.keeps I.bk) A.blt (by rw [I.ok.blt]; exact b1.keeps I.bk) ((b2 _ (by decide +kernel)).trans (by first | rfl | kernel_rfl)) ⟨rfl, ?_⟩)
  refine wpAny_loadName_free I.ok.kind hkc hcl ⟨_, KX _ _ hcell, rfl⟩ ?_
  refine wpAny_loadName_local I.ok.kind hka hns hv ?_
  obtain ⟨hh, g, d, t, os⟩ := s
  refine ks_wpAny_isType_cls hD1 hD2 ⟨rfl, ?_⟩
  refine ks_wpAny_call_super hD1 hD2 hx rfl (fun c e => by cases e) (PySem.W.looks_mroIn KX A.sub) (fun h' e kk => ?_)
  have I1 : Inv X pins σ H ⟨h', g, d, t, os⟩ := I.kept (t' := t) kk
  have KX1 := I1.kIn
  have hm := A.at_
  unfold PySem.W.ks_superIn at hm
  rw [hD] at hm
  have nx : a ≠ C := fun z => by
    have q := hx
    rw [z] at q
    have q' : some oD = some (excD C t0 none) := hD1.symm.trans q
    cases q'
    cases hD2
  refine getMethod_super_init e (PySem.W.looks_opaque KX1 A.no) (l₀ := cdD.mro) ?_ rfl KX1 hm nx (kk _ _ hx) rfl (PySem.W.looks_mroIn KX1 A.ve) ?_
  · exact fun A Q E s k q => wpAny_bind ((PySem.W.looks_clsIn KX1 hD) A _ E s k (wpAny_pure q))
  · have I2 : Inv X pins σ H ⟨h'.push (mwObj a), g, d, t + 1, os⟩ := I1.kept (t' := t + 1) fun b o e => Heap.get?_push_of_some _ e
    refine h h'.objs.size _ I2 (Heap.get?_push_at rfl rfl) ?_
    exact Nat.le_of_lt (Heap.lt_size e)
theorem pe_supE (A : SupE X.prog X.K X.mg C f cc cda) (O : OwnI C fI bmVE nid X.base) (hf : X.K.lookup f = some ⟨oc, od, .func fd, osl⟩) (hp : (fd.params.posonlyargs ++ fd.params.args).head? = some ar) (hN : X.N[0]? = some ar.arg)
    (hks : X.env.scope.names.lookup ("super" : Str) = some .globalImplicit) (hkc : X.env.scope.names.lookup ("__class__" : Str) = some .free) (hka : X.env.scope.names.lookup ar.arg = some .local) (hcl : X.env.cells.lookup ("__class__" : Str) = some cc)
    (hfu : X.env.func = some f) (hco : X.env.code = .ref cda) (hfs : ∀ q, X.s_0.heap.objs.size ≤ q → q ∉ X.fs) (ha : PA X (e :: es) t)
    (hst : starEach (e :: es) X.env = (false, eval e X.env) :: starEach es X.env := by rfl) (hpl : (backTo pos (starEach es X.env)).any (·.1) = false := by rfl)
    (ht : eval (.Call (.Attribute (.Call (.Name "super" p0) [] [] p1) "__init__" apos) (e :: es) [] pos) X.env = (do
      let ov ← attributeBase (.Call (.Name "super" p0) [] [] p1) "__init__" X.env (eval (.Call (.Name "super" p0) [] [] p1) X.env)
      standAt apos.atName
      let (f, first) ← holding [ov] (getMethod ov "__init__" pl)
      callWith pos f first (backTo pos (starEach (e :: es) X.env)) []) := by rfl) :
    PEAt X b0 (.Call (.Attribute (.Call (.Name "super" p0) [] [] p1) "__init__" apos) (e :: es) [] pos) (tSupE C t) := by
  intro pins s σ H Q I h
  obtain ⟨a, h0, ea, q⟩ := h
  refine ks_wpAt_MethodCall (pl := pl) (supE_get (k2 := fun fx => callWith pos fx.1 fx.2 (backTo pos (starEach (e :: es) X.env)) []) A hf hp hN hks hkc hka hcl hfu hco I h0 ea fun qq s' I' M hq => ?_) ht
  have Ip : Inv X ((qq, mwObj a) :: pins) σ H s' := I'.pins_of fun p hp => by
    rcases List.mem_cons.mp hp with z | z
    · subst z
      refine ⟨M, ?_, ?_, ?_, fun v z => by cases z⟩
      · exact I.hok.fresh hq
      · exact fun z => Nat.lt_irrefl _ (Nat.lt_of_lt_of_le I.lt (show s.heap.objs.size ≤ X.env.locals from (show qq = X.env.locals from z) ▸ hq))
      · exact hfs qq (Nat.le_trans I.sz hq)
    · exact I'.pin p (List.mem_append_right _ z)
  show wpAny _ _ (callWith pos (.ref qq) [] (backTo pos (starEach (e :: es) X.env)) []) _ _ _
  have hA := ha pos ((qq, mwObj a) :: pins) s' σ H _ Ip q
  rw [hst] at hA ⊢
  refine PySem.W.callWith_of (P := fun h => h.get? qq = some (mwObj a)) ?_ keeps_mw (PySem.Calls.evalArgs_plain (thn hA fun us s2 ⟨vs, H2, I2, r, e2, hl, q2⟩ => ?_))
  · show ((false || (backTo pos (starEach es X.env)).any (·.1)) || false) = false
    rw [hpl]
    rfl
  have g2 : s2.heap.get? qq = some (mwObj a) := (I2.pin _ (List.mem_append_right _ (List.mem_cons_self ..))).1
  have I2' : Inv X pins σ H2 s2 := I2.pins_of fun p hp => I2.pin p (List.mem_append_right _ (List.mem_cons_of_mem _ hp))
  refine ⟨g2, ?_⟩
  obtain ⟨tl, N, nm, q1, bs, hdct, sn, sub, ab, col, dd, k0, k1, k2, k3, k5, mN, hC, hNn, hni, T⟩ := O.obj
  obtain ⟨t0, hx⟩ := (I2'.hok a _ e2).1
  have T2 := T.keeps I2'.bk
  have hC2 := I2'.bk _ _ hC
  have keep := I2'
  obtain ⟨hh, g, d, tk, os⟩ := s2
  refine wpAny_call (code_mw_init T2 hC2 g2 hx (by show us.length ≤ sizeLine; rw [← r.length]; exact hl) fun h' k1 k2 k3 k4 => ?_)
  have J : Inv X pins σ (upd H2 a (.ext (phN a C none))) ⟨h', g, d, tk, os⟩ := keep.write (t' := tk) (by rw [e2]; trivial) (.inl rfl) (fun b u n e => k1 b u n e) ⟨_, k2⟩ (ext_phN ⟨_, k2⟩)
  rw [upd_id e2] at J
  exact ⟨.non, H2, J, rfl, q2⟩
def sXat (C : Addr) (ta tv : TE) (attr : Str) : TS := fun D σ H => tv σ H fun v H1 => ta σ H1 fun x H2 => ∃ a, x = .ref a ∧ H2 a = some (.ext (phN a C none)) ∧
  ∀ dx, H2 dx = none → dx ≠ a → D.nx σ (upd (upd H2 dx (.xd [(attr, v)])) a (.ext (phN a C (some dx))))
theorem ps_xat {o value : Expr} {attr : Str} {pos' : Pos} {ta tv : TE} (S : XSt X.K C) (hn : PySem.W.findIn X.K (.ref C) attr = some none) (ha : PE X o ta) (hv : PE X value tv) (hs : swapsWith value (some (.Attribute o attr pos')) pos.line X.env = pure false := by rfl) :
    PS X (.Assign [.Attribute o attr pos'] value pos) (sXat C ta tv attr) := by
  intro pins s σ H D I h
  refine plainObj_wpAny_Assign_Attribute (thn (hv pins s σ H _ I h) fun u s1 ⟨y, H1, I1, ry, q⟩ => thn (ha pins s1 σ H1 _ I1 q) fun ov s2 ⟨x, H2, I2, rx, a, ex, ea, q2⟩ => ?_) hs
  subst ex
  obtain rfl : ov = Value.ref a := rx
  obtain ⟨t0, hx⟩ := (I2.hok a _ ea).1
  refine xset I2.kIn S hx hn fun h' tk k1 k2 k3 => ?_
  have fr : H2 s2.heap.objs.size = none := I2.hok.fresh (Nat.le_refl _)
  have ne : s2.heap.objs.size ≠ a := Ne.symm (Nat.ne_of_lt (Heap.lt_size hx))
  -- the heap between: the dict is laid, the exception as it was
  have m1 : ∀ b, b ≠ a → (h'.update a fun _ => excD C t0 none).get? b = h'.get? b := fun b n => Heap.get?_update_other _ _ (Ne.symm n)
  have m2 : (h'.update a fun _ => excD C t0 none).get? a = some (excD C t0 none) := Heap.get?_update_self _ k1 rfl
  have J1 : Inv X pins σ (upd H2 s2.heap.objs.size (.xd [(attr, y)])) { s2 with heap := h'.update a fun _ => excD C t0 none, toks := s2.toks } := by
    refine I2.laid (t' := s2.toks) (fun b o e => ?_) (Nat.le_refl _) ?_
    · by_cases c : b = a
      · subst c
        rw [hx] at e
        cases e
        exact m2
      · rw [m1 b c]
        exact k3 b o c e
    · obtain ⟨od, es, ep, z1, z2, z3, z4, z5⟩ := k2
      refine ⟨_, ⟨od, es, ep, (m1 _ ne).trans z1, z2, z3, z4, fun n => z5 n⟩, fun f => ?_⟩
      by_cases c : f = attr
      · subst c
        simp [List.lookup, RelO, ry]
      · have c' : (f == attr) = false := by simp [c]
        simp [List.lookup, c', c, RelO]
  have e1 : (upd H2 s2.heap.objs.size (.xd [(attr, y)])) a = some (.ext (phN a C none)) := by rw [upd_ne (Ne.symm ne)]; exact ea
  have J2 := J1.write (x := a) (e := a) (h' := h') (o := .ext (phN a C (some s2.heap.objs.size))) (t' := tk) (by rw [e1]; trivial) (.inl rfl) (fun b u n e => by rw [← m1 b n]; exact e) ⟨_, k1⟩ (ext_phN ⟨_, k1⟩)
  exact ⟨σ, _, J2, q2 _ fr ne⟩
end
end L2
set_option Elab.async false
set_option linter.all false
set_option maxRecDepth 100000
set_option maxHeartbeats 1000000
namespace L2
open PySem PySem.Spec PyProof.Rows
def DctAt (h : Heap) (a : Addr) (d : Option Addr) : Prop := ∃ o, h.get? a = some o ∧ o.dict = d
theorem DctAt.kept {h h' : Heap} {a : Addr} {d : Option Addr} (x : DctAt h a d) (k : DictKept h h') : DctAt h' a d := by
  obtain ⟨o, e, r⟩ := x
  obtain ⟨o', e', r'⟩ := k a o e
  exact ⟨o', e', r'.trans r⟩
def CX1 (P : Program) (w : World) : CXT := fun outer H s E e s' => ∃ (ea : Addr) (a0 cls : Value) (dct : Option Addr) (H' : Hp) (h1 : Heap) (dead : List Addr) (B : Heap),
  e = .ref ea ∧ s'.os = s.os ∧ AllBare s'.gens ∧ Un (frs outer) [] H H' s.heap h1 ∧ HOk P w H' h1 ∧ (∀ d ∈ dead, H' d = none ∧ s.heap.get? d = none) ∧
  (∀ b o, h1.get? b = some o → b ∉ dead → b ∉ frs outer → B.get? b = some o) ∧ Heap.FlyingW B outer ea cls a0 s'.heap ∧ DctAt s'.heap ea dct ∧ h1.UpToSlots s'.heap ∧ h1.get? ea = none ∧ H' ea = none ∧ E cls dct H'
section
variable {M : Model} {A : Around} {E : Value → Shared → Prop} {s : Shared} {base : Heap} {env : Env} {outer l : List Env} {L e : Addr} {cls a0 : Value} {Q : Unit → Shared → Prop}
theorem leavesD (hfr : A.frames = some (env :: outer)) (hf : env.frame = some L) (hfl : Heap.FlyingW base (env :: outer) e cls a0 s.heap)
    (hQ : ∀ h', Heap.FlyingW base outer e cls a0 h' → s.heap.UpToSlots h' → DictKept s.heap h' → Q () { s with heap := h' }) : wpAny M A (leaving env (.ref e)) Q E s := by
  refine wpAny_mono ((mild_leaving env (.ref e)).any (wpAny_leaves_onW (E := E) (Q := fun _ s' => ∃ h', s' = { s with heap := h' } ∧ Heap.FlyingW base outer e cls a0 h' ∧ s.heap.UpToSlots h') hfr hf hfl fun h' x1 x2 => ⟨h', rfl, x1, x2⟩)) ?_ fun _ _ z => z.1
  rintro _ _ ⟨⟨h', rfl, x1, x2⟩, dk⟩
  exact hQ h' x1 x2 dk
theorem looksD (hfr : A.frames = some (env :: outer)) (hf : env.frame = some L) (hfl : Heap.FlyingW base (env :: outer) e cls a0 s.heap)
    (hQ : ∀ h', Heap.HeldW base (env :: outer) e cls a0 L h' → s.heap.UpToSlots h' → DictKept s.heap h' → Q () { s with heap := h' }) : wpAny M A (noteFrame (.ref e) env) Q E s := by
  refine wpAny_mono ((mild_note (.ref e) env).any (wpAny_looks_onW (E := E) (Q := fun _ s' => ∃ h', s' = { s with heap := h' } ∧ Heap.HeldW base (env :: outer) e cls a0 L h' ∧ s.heap.UpToSlots h') hfr hf hfl fun h' x1 x2 => ⟨h', rfl, x1, x2⟩)) ?_ fun _ _ z => z.1
  rintro _ _ ⟨⟨h', rfl, x1, x2⟩, dk⟩
  exact hQ h' x1 x2 dk
theorem landsD (hh : Heap.HeldW base l e cls a0 L s.heap)
    (hQ : ∀ h', Heap.FlyingW base l e cls a0 h' → s.heap.UpToSlots h' → DictKept s.heap h' → Q () { s with heap := h' }) : wpAny M A (setFlight (.ref e) none) Q E s := by
  refine wpAny_mono ((mild_setFlight (.ref e) none).any (wpAny_landsW (E := E) (Q := fun _ s' => ∃ h', s' = { s with heap := h' } ∧ Heap.FlyingW base l e cls a0 h' ∧ s.heap.UpToSlots h') hh fun h' x1 x2 => ⟨h', rfl, x1, x2⟩)) ?_ fun _ _ z => z.1
  rintro _ _ ⟨⟨h', rfl, x1, x2⟩, dk⟩
  exact hQ h' x1 x2 dk
theorem landsD2 (hh : Heap.FlyingW base l e cls a0 s.heap)
    (hQ : ∀ h', Heap.FlyingW base l e cls a0 h' → s.heap.UpToSlots h' → DictKept s.heap h' → Q () { s with heap := h' }) : wpAny M A (setFlight (.ref e) none) Q E s := by
  refine wpAny_mono ((mild_setFlight (.ref e) none).any (lands_againW (E := E) (Q := fun _ s' => ∃ h', s' = { s with heap := h' } ∧ Heap.FlyingW base l e cls a0 h' ∧ s.heap.UpToSlots h') hh fun h' x1 x2 => ⟨h', rfl, x1, x2⟩)) ?_ fun _ _ z => z.1
  rintro _ _ ⟨⟨h', rfl, x1, x2⟩, dk⟩
  exact hQ h' x1 x2 dk
end
def phE (ea : Addr) (cls : Value) : Heap → Prop := fun h => ∃ o, h.get? ea = some o ∧ o.cls = cls
def phD (ea : Addr) (cls : Value) (d : Option Addr) : Heap → Prop := fun h => ∃ o, h.get? ea = some o ∧ o.cls = cls ∧ o.dict = d ∧ PySem.W.notCls o = true
theorem phD.e {ea : Addr} {cls : Value} {d : Option Addr} {h : Heap} (x : phD ea cls d h) : phE ea cls h := let ⟨o, a, b, _⟩ := x; ⟨o, a, b⟩
section
variable {P : Program} {w : World} {K : PySem.W.Frag} {mg : Str → Option Value} {base : Heap} {N : List Str} {qual : Str} {scope : Scope} {f : Addr} {cd : Value} {A : Around} {outer : List Env} {s : Shared} {H : Hp} {E E' : XK}
end
section
variable {X : Cx} {x : Str} {C : Addr} {B Bn newId nid initId inN : String} {bmB bmN : List Value} {np cpos pos : Pos} {e0 : Expr} {rest : List Expr} {t : TA}
end
theorem landed {X : Cx} {pins : List (Addr × Obj)} {σ : St} {H H' : Hp} {s s' : Shared} {h1 hF B : Heap} {dead : List Addr} {ea : Addr} {cls a0 : Value} (I : Inv X pins σ H s) (os : s'.os = s.os) (bare : AllBare s'.gens) (un : Un (frs X.stack) [] H H' s.heap h1) (hok : HOk X.prog X.w H' h1)
    (hd : ∀ d ∈ dead, H' d = none ∧ s.heap.get? d = none) (cov : ∀ b o, h1.get? b = some o → b ∉ dead → b ∉ frs X.stack → B.get? b = some o) (fly : Heap.FlyingW B X.stack ea cls a0 hF) {dct : Option Addr} (dc : DctAt hF ea dct) (up : h1.UpToSlots hF) (ne1 : h1.get? ea = none) (ne2 : H' ea = none) :
    Inv X pins σ (upd H' ea (.ext (phD ea cls dct))) { s' with heap := hF } := by
  have J0 : Inv X pins σ H' { s with heap := h1, gens := s'.gens, drawn := s'.drawn, toks := s'.toks } := I.call (ch := []) un hok bare fun b z => absurd z (by simp)
  have ndead : ∀ {b : Addr} {o : Obj}, s.heap.get? b = some o → b ∉ dead := fun {b o} e z => by
    rw [(hd b z).2] at e
    cases e
  have nea : ∀ {b : Addr} {o : Obj}, h1.get? b = some o → b ≠ ea := fun {b o} e z => by
    rw [z, ne1] at e
    cases e
  have kept : ∀ b o, h1.get? b = some o → b ∉ dead → b ∉ frs X.stack → hF.get? b = some o := fun b o e n1 n2 => fly.1 b o (cov b o e n1 n2)
  have slot : ∀ b o, h1.get? b = some o → b ∈ frs X.stack → ∃ sl, hF.get? b = some { o with slots := sl } := fun b o e m => by
    refine up b o e ?_
    obtain ⟨_, o', e', nf⟩ := J0.stack.mem m
    rw [e] at e'
    cases e'
    exact nf
  have un2 : Un (frs X.stack) [] H (upd H' ea (.ext (phD ea cls dct))) s.heap hF := by
    refine ⟨fun b o e n nf nx => kept b o (un.keep b o e n nf nx) (ndead e) nf, fun b o e n mf nx => ?_, fun b o e n nx => ?_, fun b o e nx => ?_, fun b xs e => ?_, fun b o u e => ?_, fun b ps e => ?_⟩
    · obtain ⟨sl, q⟩ := un.slot b o e n mf nx
      obtain ⟨sl2, q2⟩ := slot b _ q mf
      exact ⟨sl2, q2⟩
    · obtain ⟨o', q⟩ := un.there b o e nx
      rw [upd_ne (nea q)]
      exact un.free b o e n nx
    · obtain ⟨o', q⟩ := un.there b o e nx
      by_cases m : b ∈ frs X.stack
      · obtain ⟨sl, q2⟩ := slot b o' q m
        exact ⟨_, q2⟩
      · exact ⟨o', kept b o' q (ndead e) m⟩
    · have q := un.tups b xs e
      rw [upd_ne (ne_of_none q ne2)]
      exact q
    · have q := un.frzs b o u e
      rw [upd_ne (ne_of_none q ne2)]
      exact q
    · obtain ⟨more, q⟩ := un.tbls b ps e
      refine ⟨more, ?_⟩
      rw [upd_ne (ne_of_none q ne2)]
      exact q
  have hok2 : HOk X.prog X.w (upd H' ea (.ext (phD ea cls dct))) hF := fun b u e => by
    by_cases hb : b = ea
    · subst hb
      rw [upd_same] at e
      cases e
      obtain ⟨_, _, _, ob, vs0, _, _, _, q1, q2, qd, _⟩ := fly
      obtain ⟨ob', q3, q4⟩ := dc
      obtain rfl : ob = ob' := Option.some.inj (q1.symm.trans q3)
      exact ⟨⟨ob, q1, q2.1, q4, by unfold PySem.W.notCls; rw [qd]⟩, ⟨ob, q1⟩, fun h2 h3 ⟨o, r1, r2⟩ k => ⟨o, k o r1, r2⟩⟩
    · rw [upd_ne hb] at e
      refine (hok b u e).stay (fun c v hc q => ?_) (fun c q => by rw [upd_ne (ne_of_none q ne2)]; exact q) fun c xs q => by rw [upd_ne (ne_of_none q ne2)]; exact q
      have ct : H' c ≠ none := by
        rcases hc with rfl | hc
        · rw [e]; simp
        · rw [hc]; simp
      exact kept c v q (fun z => ct (hd c z).1) fun z => ct (J0.stkFree c z)
  obtain ⟨h', g', d', t', o'⟩ := s'
  have os : o' = s.os := os
  subst os
  exact Inv.call (s := s) (h' := hF) (g' := g') (d' := d') (t' := t') (ch := []) I un2 hok2 bare fun b z => absurd z (by simp)
end L2
set_option Elab.async false
set_option linter.all false
set_option maxRecDepth 100000
set_option maxHeartbeats 1000000
namespace L2
open PySem PySem.Spec PyProof.Rows
def spXInit (C : Addr) (attr : Str) : Sp := fun vs H Q _ => ∃ (a : Addr) (i : Int), vs = [.ref a, .int i] ∧ 0 ≤ i ∧ i < 128 ∧ H a = some (.ext (phN a C none)) ∧ ∀ dx, H dx = none → dx ≠ a → Q .non (upd (upd H dx (.xd [(attr, .int i)])) a (.ext (phN a C (some dx))))
def unH (H : Hp) (a : Addr) : Hp := fun b => if b = a then none else H b
theorem unH_same {H : Hp} {a : Addr} : unH H a a = none := by unfold unH; rw [if_pos rfl]
theorem unH_ne {H : Hp} {a b : Addr} (h : b ≠ a) : unH H a b = H b := by unfold unH; rw [if_neg h]
section
variable {X : Cx} {C fI : Addr} {fd : FuncData} {attr : Str} {nid B Bn newId nidB initId inN : String} {bmB bmN : List Value} {k : Nat} {ps : List Str}
theorem make_exc {pins : List (Addr × Obj)} {σ : St} {H : Hp} {s : Shared} {i : Int} {u : Value} {Q : Value → Shared → Prop} (O : OwnI C fI bmB newId X.base) (F : FnOk X.prog X.w X.K X.mg X.base CX0 k fI fd ps (spXInit C attr))
    (Fn : ExcBaseFacts Bn newId inN bmN) (hBn : bmB.contains (.type Bn) = true) (FB : ExcBaseFacts B nidB initId bmB) (hr : Room (k + 1) X.A) (hb : Binds X.K fd ps []) (tf : PySem.W.typeIn X.K (.ref fI) = some (.type "function"))
    (I : Inv X pins σ H s) (hu : RelV (.int i) u) (h0 : 0 ≤ i) (h1 : i < 128)
    (hq : ∀ e dx s' H', Inv X pins σ H' s' → s.heap.objs.size ≤ e → H e = none → H dx = none → dx ≠ e → H' = upd (upd (upd H e (.ext (phN e C none))) dx (.xd [(attr, .int i)])) e (.ext (phN e C (some dx))) → Q (.ref e) s') :
    wpAny (model X.prog X.w) X.A (call (.ref C) [u]) Q X.xe s := by
  obtain ⟨tl, N, nm, q1, bs, hdct, sn, sub, ab, col, dd, k0, k1, k2, k3, k5, mN, hC, hN, hni, T⟩ := O.obj
  have KX := I.kIn
  obtain ⟨of, hof, hofc⟩ : ∃ of, s.heap.get? fI = some of ∧ of.cls = .type "function" := by
    have ht' : (X.K.lookup fI).map (·.cls) = some (.type "function") := tf
    cases z : X.K.lookup fI with
    | none => rw [z] at ht'; cases ht'
    | some of => rw [z] at ht'; exact ⟨of, KX _ _ z, Option.some.inj ht'⟩
  have hC' := I.bk _ _ hC
  have hN' := hN.keeps I.bk
  have T' := T.keeps I.bk
  have I0 := I
  obtain ⟨hp, g, d, tk, os⟩ := s
  obtain ⟨_, hget, kp⟩ := made_two (rest := [u]) hC'
  have fr : H (hp.objs.size + 1) = none := I0.hok.fresh (Nat.le_succ _)
  have I2 : Inv X pins σ (upd H (hp.objs.size + 1) (.ext (phN (hp.objs.size + 1) C none))) ⟨(hp.push (tupO [u])).push (excO C hp.objs.size), g, d, tk, os⟩ :=
    I0.laid (t' := tk) kp (Nat.le_succ _) (ext_phN ⟨_, hget⟩)
  have r2 : Vals [V.ref (hp.objs.size + 1), V.int i] [Value.ref (hp.objs.size + 1), u] := .cons rfl (.cons hu .nil)
  have hsp : spXInit C attr [V.ref (hp.objs.size + 1), V.int i] (upd H (hp.objs.size + 1) (.ext (phN (hp.objs.size + 1) C none)))
      (fun v H' => v = .non ∧ ∃ dx, H dx = none ∧ dx ≠ hp.objs.size + 1 ∧ H' = upd (upd (upd H (hp.objs.size + 1) (.ext (phN (hp.objs.size + 1) C none))) dx (.xd [(attr, .int i)])) (hp.objs.size + 1) (.ext (phN (hp.objs.size + 1) C (some dx)))) E0 :=
    ⟨_, i, rfl, h0, h1, upd_same, fun dx e1 e2 => ⟨rfl, dx, by rw [upd_ne e2] at e1; exact e1, e2, rfl⟩⟩
  have hl := F.len _ _ _ _ hsp
  refine call_own_init (rest := [u]) Fn hBn FB T' hC' hN' hni hof hofc ?_ (by show 1 ≤ sizeLine; decide)
  refine wpAny_call (codeAny_mono (F.run _ X.stack _ _ ⟨[Value.ref (hp.objs.size + 1), u], []⟩ [Value.ref (hp.objs.size + 1), u] _ _ E0 (hr.make C [u] []) (I2.env0.make C [u] []) (hb _ [Value.ref (hp.objs.size + 1), u] I2.kIn hl) r2 hsp) fun r s' hq' => ?_)
  cases r with
  | error e => exact False.elim hq'
  | ok fl =>
    cases fl with
    | ret u' =>
      obtain ⟨v, H', I3, rv, ev, dx, e1, e2, eH⟩ := I2.after hq'
      subst ev
      exact ⟨rv, hq _ dx s' H' I3 (Nat.le_succ _) fr e1 e2 eH⟩
    | next => exact False.elim hq'
    | brk => exact False.elim hq'
    | cont => exact False.elim hq'
end
section
variable {P : Program} {w : World} {K : PySem.W.Frag} {mg : Str → Option Value} {base : Heap} {N : List Str} {qual : Str} {scope : Scope} {f : Addr} {cd : Value} {A : Around} {outer : List Env} {s : Shared} {H : Hp} {E : XK}
theorem raise_leaves2 {pins : List (Addr × Obj)} {σ : St} {H1 : Hp} {s1 : Shared} {e C dx : Addr} (I : Inv (cxOf (CX1 P w) P w K mg base N qual scope f cd A outer s H E) pins σ H1 s1) (hs : s.heap.objs.size ≤ e) (he : H1 e = some (.ext (phN e C (some dx)))) (k : E (.ref C) (some dx) (unH H1 e)) :
    (cxOf (CX1 P w) P w K mg base N qual scope f cd A outer s H E).xe (.ref e) s1 := by
  have hin : ∀ env ∈ (envOfC qual scope s.heap.objs.size f cd :: outer), ∀ b, env.frame = some b → b ∈ e :: frs (envOfC qual scope s.heap.objs.size f cd :: outer) := fun env he b hb => List.mem_cons_of_mem _ (List.mem_filterMap.mpr ⟨env, he, hb⟩)
  obtain ⟨t, hob⟩ := (I.hok e _ he).1
  have he0 : s.heap.get? e = none := Heap.get?_none_of_le hs
  have ne0 : ∀ {b : Addr} {o : Obj}, s.heap.get? b = some o → b ≠ e := fun {b o} q z => by rw [z, he0] at q; cases q
  refine wpAny_mono ((mild_leaving _ (.ref e)).any (wpAny_leaving_firstW (E := fun _ _ => False) (Q := fun _ s' => ∃ h2, s' = { s1 with heap := h2 } ∧ Heap.LeftW (PySem.W.hideAll s1.heap (e :: frs (envOfC qual scope s.heap.objs.size f cd :: outer))) (envOfC qual scope s.heap.objs.size f cd :: outer) e (.ref C) (.ref t) s1.heap h2)
    (base := PySem.W.hideAll s1.heap (e :: frs (envOfC qual scope s.heap.objs.size f cd :: outer))) I.ok.frames (PySem.W.funFrames_hide I.stack hin) rfl hob (fun b o q => PySem.W.of_hideAll _ q) (PySem.W.hideAll_none _ (List.mem_cons_self ..)) rfl rfl rfl fun h2 x => ⟨h2, rfl, x⟩)) ?_ fun _ _ z => z.1.elim
  rintro _ _ ⟨⟨h2, rfl, x1, ⟨_, _, x2⟩, x3, x4⟩, dk⟩
  refine ⟨e, .ref t, .ref C, some dx, unH H1 e, PySem.W.hideAll s1.heap [e], [s.heap.objs.size], PySem.W.hideAll s1.heap (e :: frs (envOfC qual scope s.heap.objs.size f cd :: outer)), rfl, I.os, I.bare, ?_, ?_, fun d hd => ?_, fun b o q n1 n2 => ?_, ⟨x1, PySem.W.hideAll_none _ (List.mem_cons_self ..), x2, x3⟩, DctAt.kept ⟨_, hob, rfl⟩ dk, ?_, PySem.W.hideAll_none _ (List.mem_singleton.mpr rfl), unH_same, k⟩
  · have U := I.base
    have hid : ∀ {b : Addr} {o : Obj}, b ≠ e → s1.heap.get? b = some o → (PySem.W.hideAll s1.heap [e]).get? b = some o := fun {b o} n q => PySem.W.hideAll_get _ q fun z => n (List.mem_singleton.mp z)
    have nt : ∀ {b : Addr} {u : HO}, H1 b = some u → u ≠ .ext (phN e C (some dx)) → b ≠ e := fun {b u} q n z => by
      rw [z, he] at q
      exact n (Option.some.inj q).symm
    refine ⟨fun b o q n nf nx => hid (ne0 q) (U.keep b o q n nf nx), fun b o q n mf nx => ?_, fun b o q n nx => ?_, fun b o q nx => ?_, fun b xs q => ?_, fun b o u q => ?_, fun b ps q => ?_⟩
    · obtain ⟨sl, z⟩ := U.slot b o q n mf nx
      exact ⟨sl, hid (ne0 q) z⟩
    · rw [unH_ne (ne0 q)]
      exact U.free b o q n nx
    · obtain ⟨o', z⟩ := U.there b o q nx
      exact ⟨o', hid (ne0 q) z⟩
    · have z := U.tups b xs q
      rw [unH_ne (nt z (by intro h; cases h))]
      exact z
    · have z := U.frzs b o u q
      rw [unH_ne (nt z (by intro h; cases h))]
      exact z
    · obtain ⟨more, z⟩ := U.tbls b ps q
      refine ⟨more, ?_⟩
      rw [unH_ne (nt z (by intro h; cases h))]
      exact z
  · intro b u q
    by_cases hb : b = e
    · subst hb
      rw [unH_same] at q
      cases q
    · rw [unH_ne hb] at q
      refine (I.hok b u q).stay (fun c v hc z => ?_) (fun c z => ?_) fun c xs z => ?_
      · refine PySem.W.hideAll_get _ z fun y => ?_
        have y := List.mem_singleton.mp y
        rcases hc with hc | hc
        · exact hb (hc.symm.trans y)
        · rw [y, he] at hc
          cases hc
      · rw [unH_ne (fun y => by rw [y, he] at z; cases z)]
        exact z
      · rw [unH_ne (fun y => by rw [y, he] at z; cases z)]
        exact z
  · rw [List.mem_singleton.mp hd]
    refine ⟨?_, Heap.get?_none_of_le (Nat.le_refl _)⟩
    by_cases c : s.heap.objs.size = e
    · rw [c]; exact unH_same
    · rw [unH_ne c]; exact I.free
  · have q' := PySem.W.of_hideAll _ q
    refine PySem.W.hideAll_get _ q' fun z => ?_
    rcases List.mem_cons.mp z with z | z
    · rw [z, PySem.W.hideAll_none _ (List.mem_singleton.mpr rfl)] at q
      cases q
    · obtain ⟨env, he', hf⟩ := List.mem_filterMap.mp z
      rcases List.mem_cons.mp he' with rfl | he'
      · exact n1 (List.mem_singleton.mpr (Option.some.inj hf).symm)
      · exact n2 (List.mem_filterMap.mpr ⟨env, he', hf⟩)
  · exact (Heap.UpToSlots.of_keeps fun b o q => PySem.W.of_hideAll _ q).trans x4
end
section
variable {X : Cx} {x : Str} {C fI : Addr} {fd : FuncData} {attr : Str} {B Bn newId nidB initId inN : String} {bmB bmN : List Value} {np cpos pos : Pos} {e0 : Expr} {rest : List Expr} {t : TA} {k : Nat} {ps : List Str}
theorem ps_raise3 (O : OwnI C fI bmB newId X.base) (F : FnOk X.prog X.w X.K X.mg X.base CX0 k fI fd ps (spXInit C attr)) (Fn : ExcBaseFacts Bn newId inN bmN) (hBn : bmB.contains (.type Bn) = true) (FB : ExcBaseFacts B nidB initId bmB)
    (hr : Room (k + 1) X.A) (hb : Binds X.K fd ps []) (tf : PySem.W.typeIn X.K (.ref fI) = some (.type "function")) (kp : PySem.W.keepIn X.K (.ref C) = true) (hm : X.mg x = some (.ref C)) (hcalm : X.calm = true) (ha : PA X (e0 :: rest) t) (W : Addr → Hp → Prop)
    (hthrow : ∀ pins σ H s e dx, Inv X pins σ H s → X.s_0.heap.objs.size ≤ e → H e = some (.ext (phN e C (some dx))) → W dx (unH H e) → X.xe (.ref e) s) (hg : Gl X x := by rfl) (hd : (x == ("__debug__" : Str)) = false := by decide)
    (he : starEach (e0 :: rest) X.env = (false, eval e0 X.env) :: starEach rest X.env := by rfl) (hpl : (backTo cpos (starEach rest X.env)).any (·.1) = false := by rfl) :
    PS X (.Raise (some (.Call (.Name x np) (e0 :: rest) [] cpos)) none pos) (fun _ σ H => t σ H fun vs H1 => ∃ i, vs = [.int i] ∧ 0 ≤ i ∧ i < 128 ∧ ∀ dx, H1 dx = none → W dx (upd H1 dx (.xd [(attr, .int i)]))) := by
  intro pins s σ H D I h
  obtain ⟨tl, N, nm, q1, bs, hdct, sn, sub, ab, col, dd, k0, k1, k2, k3, k5, mN, hC, hN, hni, T⟩ := id O.obj
  rw [arm_exec_Raise]
  refine wpAny_bind (wpAny_standAt ?_)
  simp only [evalOpt, Option.map]
  have hbB : (Value.ref C :: tl).contains (.type "BaseException") = true := by rw [List.contains_cons, T.hasType FB.hasBase, Bool.or_true]
  refine raise_made (C := C) (nm := nm) (q := q1) (N := N) (bs := bs) (bm := tl) (hdct := hdct) (sn := sn) (sub := sub) (ab := ab) (col := col) (dd := dd) (k0 := k0) (k1 := k1) (k2 := k2) (k3 := k3) (k5 := k5) (newId := newId) hbB (I.ok.hd hcalm) (wpAny_bind ?_)
  refine wpAny_Call_Name_kw (ld_glob I hg hm ?_ hd)
  refine PySem.W.callWith_K (h₀ := X.base) I.ok.mod.kin kp (thn (ha cpos pins s σ H _ I h) fun us s1 ⟨vs, H1, I1, r, i, ev, h0, h1, q⟩ => ⟨I1.kIn, ?_⟩) he hpl
  subst ev
  obtain ⟨u, rfl, ru⟩ := vals1 r
  refine make_exc (H := H1) (σ := σ) (pins := pins) O F Fn hBn FB hr hb tf I1 ru h0 h1 fun e dx s' H' I' hs e1 e2 e3 eH => ?_
  have hH : H' e = some (.ext (phN e C (some dx))) := by rw [eH, upd_same]
  obtain ⟨t0, hob⟩ := (I'.hok e _ hH).1
  have wp : unH H' e = upd H1 dx (.xd [(attr, .int i)]) := by
    funext b
    by_cases c : b = e
    · subst c
      rw [unH_same, upd_ne (Ne.symm e3), e1]
    · rw [unH_ne c, eH, upd_ne c]
      by_cases c2 : b = dx
      · subst c2; rw [upd_same, upd_same]
      · rw [upd_ne c2, upd_ne c2, upd_ne c]
  have hx := hthrow pins σ H' s' e dx I' (Nat.le_trans I1.sz hs) hH (by rw [wp]; exact q dx e2)
  exact wpAny_bind (wpAny_standAt (wpAny_pure ⟨e, _, _, rfl, I'.bk _ _ hC, hob, rfl, rfl, rfl, hx⟩))
end
end L2
set_option Elab.async false
set_option linter.all false
set_option maxRecDepth 100000
set_option maxHeartbeats 1000000
set_option pp.maxSteps 600
set_option pp.deepTerms false
namespace Tm
open PySem L2
theorem dig_len : ∀ n : Fin 128, (Str.ofString (toString ((n : Nat) : Int))).length ≤ 3 := by decide +kernel
theorem int_len {i : Int} (h0 : 0 ≤ i) (h1 : i < 128) : (Str.ofString (toString i)).length ≤ 3 := by
  have q := dig_len ⟨i.toNat, by omega⟩
  have e : (((⟨i.toNat, by omega⟩ : Fin 128) : Nat) : Int) = i := by show ((i.toNat : Nat) : Int) = i; omega
  rw [e] at q
  exact q
theorem int_log {i : Int} (h0 : 0 ≤ i) (h1 : i < 128) : i.natAbs.log2 < 1920 := by
  have : i.natAbs < 128 := by omega
  by_cases z : i.natAbs = 0
  · rw [z]; decide
  · have := (Nat.log2_lt (n := i.natAbs) (k := 7) z).mpr (by omega)
    omega
abbrev s_BadText___init__ : Stmt := inClass (top 8) 0
abbrev N_BadText___init__ : List Str := ["self", "line"]
abbrev P_BadText___init__ : List Str := ["self", "line"]
theorem sc_BadText___init__ : SupScope N_BadText___init__ (defScope s_BadText___init__) := ⟨rfl, rfl, rfl, by decide +kernel, by decide +kernel, by decide +kernel, by decide +kernel⟩
section
variable {P : Program} {w : World} {K : PySem.W.Frag} {mg : Str → Option Value} {base : Heap}
theorem ok_xBadText {C f cc cda : Addr} {fd : FuncData} {nid : String} (F : FunS K "__init__" "BadText.__init__" s_BadText___init__ f cc cda fd) (A0 : SupE P K mg C f cc cda) (O : OwnI C f bmVE nid base) (S : XSt K C) (hn : PySem.W.findIn K (.ref C) "line" = some none) : FnOk P w K mg base CX0 1 f fd P_BadText___init__ (spXInit C "line") := by
  have sc := sc_BadText___init__
  obtain ⟨oc, od, kV, doc, pm, an, ct, osl, efd, hf, _⟩ := id F.ex
  subst efd
  refine F.ok sc A0.cell (fun vs H Q E h => ?_) (fun A outer s H vs Q E hr hfun h => ?_)
  · obtain ⟨a, i, rfl, _⟩ := h
    rfl
  obtain ⟨a, i, rfl, h0, h1, ha, k⟩ := h
  have hu := hu_of hr
  have hu64 := hr.units
  have hfs : ∀ q, s.heap.objs.size ≤ q → q ∉ frs outer := fun q hq z => by
    obtain ⟨_, o, ho, _⟩ := hfun.mem z
    exact absurd (Heap.lt_size ho) (Nat.not_lt.mpr hq)
  refine ⟨_, (pat_cons (pat_expr (pe_supE A0 O hf rfl rfl rfl rfl rfl rfl rfl rfl hfs (pa_cons (pe_fstr (pfs_cons (pf_const pe_str) (pfs_cons (pf_int (qv 1)) (pfs_cons (pf_const pe_str) pfs_nil)))) pa_nil)))
    (pat_one (PS.at (ps_xat S hn (qv 0) (qv 1))))), ?_⟩
  have d3 := int_len h0 h1
  have l0 : (Str.empty ++ Str.ofString "line ").length ≤ 50 := by decide +kernel
  have l2 : (Str.ofString " is no row").length ≤ 50 := by decide +kernel
  refine ⟨a, rfl, ha, ?_⟩
  refine ⟨Nat.le_of_lt (small1000 (Nat.le_trans l0 (by decide))), ?_⟩
  refine ⟨i, rfl, int_log h0 h1, ?_⟩
  have l1 : (Str.empty ++ Str.ofString "line " ++ Str.ofString (toString i)).length ≤ 53 := by rw [PySem.Str.length_append]; omega
  refine ⟨Nat.le_of_lt (small1000 (Nat.le_trans l1 (by decide))), ?_⟩
  have l3 : (Str.empty ++ Str.ofString "line " ++ Str.ofString (toString i) ++ Str.ofString " is no row").length ≤ 103 := by rw [PySem.Str.length_append]; omega
  refine ⟨Nat.le_of_lt (small1000 (Nat.le_trans l3 (by decide))), ?_⟩
  refine ⟨Nat.le_of_lt (small1000 (Nat.le_trans l3 (by decide))), ?_⟩
  refine ⟨ha, (by show 1 ≤ sizeLine; decide), ?_⟩
  exact ⟨a, rfl, ha, fun dx e1 e2 => k dx e1 e2⟩
end
end Tm
set_option Elab.async false
set_option linter.all false
set_option maxRecDepth 100000
set_option maxHeartbeats 1000000
namespace L2
open PySem PySem.Spec PyProof.Rows
section
variable {X : Cx} {pins : List (Addr × Obj)} {σ : St} {H : Hp} {s : Shared} {i : Nat} {n : Str}
theorem gone_ok {h' : Heap} {u : Option Value} {m : Str → Option Value} {t' : Nat} (I : Inv X pins σ H s) (hN : X.N.Nodup) (hi : X.N[i]? = some n)
    (hl : ∀ (j : Nat) (x : Str) (v : V), X.N[j]? = some x → σ[j]? = some (some v) → Vis X.env.scope x → ∃ u, RelV v u ∧ Look X.env s.heap m x u) (hn' : h'.Ns X.env.locals (fun x => if x = n then u else m x)) (hs : Heap.SameBut X.env.locals s.heap h') (ho : ∃ o, s.heap.get? X.env.locals = some o) :
    Inv X pins (σ.set i none) H { s with heap := h', toks := t' } := by
  have hiσ : i < σ.length := by rw [I.len]; exact (List.getElem?_eq_some_iff.mp hi).1
  have cne := I.cne
  refine ⟨I.ok, I.os, I.bare, ⟨fun b o e nn hb hx => ?_, fun b o e nn hb hx => ?_, I.base.free, fun b o e hx => ?_, I.base.tups, I.base.frzs, I.base.tbls⟩, ⟨_, hn', fun j y v' e1 e2 e3 => ?_⟩, fun y c e => ?_, I.free, I.freeC, fun p hp => ?_, fun b ob e => ?_, by simpa using I.len⟩
  · exact (hs.2 b (Nat.ne_of_lt (Nat.lt_of_lt_of_le (Heap.lt_size e) I.ok.above))).trans (I.base.keep b o e nn hb hx)
  · obtain ⟨sl, e1⟩ := I.base.slot b o e nn hb hx
    exact ⟨sl, (hs.2 b (Nat.ne_of_lt (Nat.lt_of_lt_of_le (Heap.lt_size e) I.ok.above))).trans e1⟩
  · obtain ⟨o', e1⟩ := I.base.there b o e hx
    exact ⟨o', (hs.2 b (Nat.ne_of_lt (Nat.lt_of_lt_of_le (Heap.lt_size e) I.ok.above))).trans e1⟩
  · by_cases hj : j = i
    · subst hj
      rw [List.getElem?_set_self hiσ] at e2
      cases e2
    · rw [List.getElem?_set_ne (Ne.symm hj)] at e2
      obtain ⟨u', r', q⟩ := hl j y v' e1 e2 e3
      refine ⟨u', r', ?_⟩
      rcases q with ⟨k, e⟩ | ⟨k, c, e, z⟩
      · refine .inl ⟨k, ?_⟩
        have : y ≠ n := fun e => hj (nodup_ix hN e1 (e ▸ hi))
        simp [this, e]
      · exact .inr ⟨k, c, e, z.sameBut hs (cne y c e)⟩
  · obtain ⟨w', z⟩ := I.cell y c e
    exact ⟨w', z.sameBut hs (cne y c e)⟩
  · obtain ⟨e, nn, ne, nf, d⟩ := I.pin p hp
    exact ⟨(hs.2 p.1 ne).trans e, nn, ne, nf, d⟩
  · refine (I.hok b ob e).stay (fun c w' hc q => (hs.2 c ?_).trans q) (fun _ q => q) fun _ _ q => q
    rintro rfl
    rcases hc with rfl | hc
    · rw [I.free] at e; cases e
    · rw [I.free] at hc; cases hc
theorem name_goes {M : Model} {A : Around} {E : Value → Shared → Prop} {pos : Pos} {Q : Unit → Shared → Prop} (I : Inv X pins σ H s) (hN : X.N.Nodup) (hi : X.N[i]? = some n) (hk : X.env.scope.names.lookup n = some .local)
    (h : ∀ s', Inv X pins (σ.set i none) H s' → Q () s') : wpAny M A (do bindName X.env n .none; unbindBehindTheSuite X.env n pos) Q E s := by
  refine wpAny_bind (wpAny_bindName (store_ok I hN hi (.inl hk) (show RelV .non .none from rfl) (fun s1 I1 => ?_) (.inr hk)))
  unfold unbindBehindTheSuite
  refine wpAny_onRaise ?_
  obtain ⟨m, hn, hl⟩ := id I1.loc
  have hiσ : i < (σ.set i (some V.non)).length := by rw [I1.len]; exact (List.getElem?_eq_some_iff.mp hi).1
  obtain ⟨u, r, q⟩ := hl i n .non hi (by rw [List.getElem?_set_self (by simpa using hiσ)]) (.inl hk)
  have hv : ∃ v, m n = some v := by
    rcases q with ⟨_, e⟩ | ⟨k, _⟩
    · exact ⟨_, e⟩
    · exact absurd k (by rw [show X.env.kindOf n = some .local from hk]; simp)
  obtain ⟨v, hv⟩ := hv
  have hcls : (X.env.scope.kind == .class || (X.env.scope.kind == .module && X.env.locals != X.env.globals)) = false := by rw [I1.ok.kind]; rfl
  obtain ⟨oL, _, _, hoL, _⟩ := id hn
  refine wpAny_unbindName_local hk hn hv hcls fun h' u hn' hs => ?_
  have J := gone_ok (t' := s1.toks) I1 hN hi hl hn' hs ⟨_, hoL⟩
  rw [List.set_set] at J
  exact h _ J
end
abbrev Cx.pin (X : Cx) (ps : List (Addr × Obj)) : Cx := { X with pn := X.pn ++ ps }
abbrev Cx.marked (X : Cx) (ea : Addr) : Cx := { X with A := X.A.mark (some (.ref ea)), calm := false }
section
variable {X : Cx} {pins p' : List (Addr × Obj)} {σ : St} {H : Hp} {s : Shared}
theorem Cx.Ok.pin (ok : X.Ok) (ps : List (Addr × Obj)) : (X.pin ps).Ok := ⟨ok.mod, ok.kind, ok.glob, ok.blt, ok.above, ok.inj, ok.has, ok.cab, ok.hd, ok.frames, ok.stk, ok.exf, ok.bs, ok.bsz, ok.noex, ok.exfs, ok.funs, ok.frf⟩
theorem Cx.Ok.unpin {ps : List (Addr × Obj)} (ok : (X.pin ps).Ok) : X.Ok := ⟨ok.mod, ok.kind, ok.glob, ok.blt, ok.above, ok.inj, ok.has, ok.cab, ok.hd, ok.frames, ok.stk, ok.exf, ok.bs, ok.bsz, ok.noex, ok.exfs, ok.funs, ok.frf⟩
theorem Cx.Ok.mark (ok : X.Ok) (ea : Addr) : (X.marked ea).Ok := ⟨ok.mod, ok.kind, ok.glob, ok.blt, ok.above, ok.inj, ok.has, ok.cab, (fun z => by cases z), ok.frames, ok.stk, ok.exf, ok.bs, ok.bsz, ok.noex, ok.exfs, ok.funs, ok.frf⟩
theorem Inv.lasting (I : Inv X pins σ H s) : Inv (X.pin pins) [] σ H s := ⟨I.ok.pin pins, I.os, I.bare, I.base, I.loc, I.cell, I.free, I.freeC, (fun p hp => I.pin p (by simpa using hp)), I.hok, I.len⟩
theorem Inv.unlast (I : Inv (X.pin pins) p' σ H s) : Inv X pins σ H s := ⟨I.ok.unpin, I.os, I.bare, I.base, I.loc, I.cell, I.free, I.freeC, (fun p hp => I.pin p (List.mem_append_left _ hp)), I.hok, I.len⟩
theorem Inv.mark (I : Inv X pins σ H s) (ea : Addr) : Inv (X.marked ea) pins σ H s := ⟨I.ok.mark ea, I.os, I.bare, I.base, I.loc, I.cell, I.free, I.freeC, I.pin, I.hok, I.len⟩
theorem Inv.unmark {ea : Addr} (ok : X.Ok) (I : Inv (X.marked ea) pins σ H s) : Inv X pins σ H s := ⟨ok, I.os, I.bare, I.base, I.loc, I.cell, I.free, I.freeC, I.pin, I.hok, I.len⟩
end
def XW (X : Cx) (W : St → XK) : Value → Shared → Prop := fun e s' => ∃ pins σ H s, Inv X pins σ H s ∧ CX1 X.prog X.w X.stack H s (W σ) e s'
abbrev Cx.tries (X : Cx) (ps : List (Addr × Obj)) (W : St → XK) : Cx := (X.pin ps).wish (XW (X.pin ps) W)
def Dh (i : Nat) (D : Ends) : Ends := { nx := fun σ H => D.nx (σ.set i none) H, rt := D.rt, bk := fun σ H => D.bk (σ.set i none) H, ct := fun σ H => D.ct (σ.set i none) H }
def tTry (K : PySem.W.Frag) (C : Addr) (i : Nat) (tb : (St → XK) → TS) (th : Addr → TS) : TS := fun D σ H => tb (fun σ1 cls dct H' => PySem.W.exmOne K cls (.ref C) = some true ∧ ∀ ea, H' ea = none → th ea (Dh i D) (σ1.set i (some (.ref ea))) (upd H' ea (.ext (phD ea cls dct)))) D σ H
section
variable {X : Cx} {x n : Str} {C : Addr} {i : Nat} {body suite : List Stmt} {b0 : Stmt} {np hpos pos : Pos} {tb : (St → XK) → TS} {th : Addr → TS}
theorem ps_try (hm : X.mg x = some (.ref C)) (hN : X.N.Nodup) (hi : X.N[i]? = some n) (hk : X.env.scope.names.lookup n = some .local) (hst : X.stack = X.env :: X.outer ∧ X.env.frame = some X.env.locals)
    (hb : ∀ ps W, PSs (X.tries ps W) body (tb W)) (hh : ∀ ea, PSs (X.marked ea).nox (b0 :: suite) (th ea)) (hg : Gl X x := by rfl) (hd : (x == ("__debug__" : Str)) = false := by decide) :
    PS X (.Try body [.ExceptHandler (some (.Name x np)) (some n) (b0 :: suite) hpos] [] [] pos) (tTry X.K C i tb th) := by
  intro pins s σ H D I h
  refine wpAny_Try_except (wpAny_mono (hb pins _ [] s σ H D (I.lasting.wish _) h) (fun f s1 q => ?_) (fun e s1 q => ?_))
  · cases f with
    | next =>
      obtain ⟨σ', H', J, q⟩ := q
      exact wpAny_execs_nil ⟨σ', H', J.unwish.unlast, q⟩
    | brk =>
      obtain ⟨σ', H', J, q⟩ := q
      exact ⟨σ', H', J.unwish.unlast, q⟩
    | cont =>
      obtain ⟨σ', H', J, q⟩ := q
      exact ⟨σ', H', J.unwish.unlast, q⟩
    | ret u =>
      obtain ⟨v, σ', H', J, r, q⟩ := q
      exact ⟨v, σ', H', J.unwish.unlast, r, q⟩
  · obtain ⟨p', σ1, H1, s0, I0, ea, a0, cls, dct, H', h1, dead, B, rfl, os, bare, un, hok, hdd, cov, fly, dc, up, ne1, ne2, hx, k⟩ := q
    have I0 : Inv X pins σ1 H1 s0 := I0.unlast
    have fr : X.A.frames = some (X.env :: X.outer) := by rw [I0.ok.frames, hst.1]
    have fly : Heap.FlyingW B (X.env :: X.outer) ea cls a0 s1.heap := by rw [← hst.1]; exact fly
    refine looksD fr hst.2 fly fun h4 held up4 dk4 => ?_
    refine landsD held fun h5 fly5 up5 dk5 => ?_
    have dc5 : DctAt h5 ea dct := (dc.kept dk4).kept dk5
    have fly5' : Heap.FlyingW B X.stack ea cls a0 h5 := by rw [hst.1]; exact fly5
    have J5 := landed (hF := h5) (s' := s1) I0 os bare un hok hdd cov fly5' dc5 ((up.trans up4).trans up5) ne1 ne2
    refine wpAny_handleBy_cons (codeAny_handlers_test ?_) (by intro q; cases q)
    refine Calls.Name_function_global J5.ok.kind hg (Calls.loadGlobal_global (by rw [J5.ok.glob]; exact J5.mod.glob.keeps J5.bk) hm ?_) hd
    have LT : PySem.W.Looks (model X.prog X.w) h5 (typeOf (.ref ea)) cls := by
      obtain ⟨ob, hob, hc⟩ := fly5.there
      subst hc
      exact (PySem.W.Looks.ld hob).andThen .now
    refine PySem.W.exm_one J5.kIn LT hx _ _ _ _ (fun _ _ e => e) ?_
    refine codeAny_handlers_suite_as ?_
    refine landsD2 fly5 fun h6 fly6 up6 dk6 => ?_
    have fly6' : Heap.FlyingW B X.stack ea cls a0 h6 := by rw [hst.1]; exact fly6
    have J6 := landed (hF := h6) (s' := s1) I0 os bare un hok hdd cov fly6' (dc5.kept dk6) (((up.trans up4).trans up5).trans up6) ne1 ne2
    refine store_ok J6 hN hi (.inl hk) (show RelV (.ref ea) (.ref ea) from rfl) (fun s7 I7 => ?_) (.inr hk)
    refine wpAny_mono (hh ea pins s7 _ _ (Dh i D) ((I7.mark ea).wish _) (k ea ne2)) (fun f s8 q => ?_) fun _ _ z => False.elim z
    have fin : ∀ {σ' : St} {H' : Hp} {Q : Unit → Shared → Prop}, Inv ((X.marked ea).nox) pins σ' H' s8 → (∀ s', Inv X pins (σ'.set i none) H' s' → Q () s') → wpAny (model X.prog X.w) X.A (do bindName X.env n .none; unbindBehindTheSuite X.env n hpos) Q X.xe s8 := fun {σ' H' Q} J kk => name_goes (Inv.unmark I.ok J.unwish) hN hi hk kk
    cases f with
    | next =>
      obtain ⟨σ', H', J, q⟩ := q
      exact fin J fun s' J' => ⟨_, H', J', q⟩
    | brk =>
      obtain ⟨σ', H', J, q⟩ := q
      exact fin J fun s' J' => ⟨_, H', J', q⟩
    | cont =>
      obtain ⟨σ', H', J, q⟩ := q
      exact fin J fun s' J' => ⟨_, H', J', q⟩
    | ret u =>
      obtain ⟨v, σ', H', J, r, q⟩ := q
      exact fin J fun s' J' => ⟨v, _, H', J', r, q⟩
end
end L2
set_option Elab.async false
set_option linter.all false
set_option maxRecDepth 100000
set_option maxHeartbeats 1000000
namespace L2
open PySem PySem.Spec PyProof.Rows
structure CloScope0 (fr : List Str) (sc : Scope) : Prop where
  kind : sc.kind = .function
  co : sc.isCoroutine = false
  gen : sc.isGenerator = false
  fre : ∀ x ∈ fr, sc.names.lookup x = some .free
  nocell : ∀ x ∈ sc.names, x.2 ≠ .cell
  only : ∀ x, sc.names.lookup x = some .free → x ∈ fr
section
variable {P : Program} {w : World} {K : PySem.W.Frag} {mg : Str → Option Value} {base : Heap} {fr : List Str} {qual : Str} {scope : Scope} {f : Addr} {cd : Value} {clos : List (Str × Addr)} {A : Around} {outer : List Env} {s : Shared} {H : Hp} {E : XK} {CX : CXT} {ws : List V}
theorem inv_start0 (S : CloScope0 fr scope) (inj : ∀ x y c, clos.lookup x = some c → clos.lookup y = some c → x = y) (hd : A.handled = none) (e0 : Env0 P w K mg base A outer s H) (cl : CellsAt s.heap H outer clos fr ws) (lw : ws.length = fr.length) {h' : Heap} {tk : Tok} {m : Str → Option Value}
    (hns : h'.Ns s.heap.objs.size m) (hk : ∀ b o, s.heap.get? b = some o → h'.get? b = some o) :
    Inv (cxC CX P w K mg base fr qual scope f cd clos A outer s H E) [] (ws.map some) H { s with heap := h', toks := tk } := by
  have noA : ∀ b : Addr, b ∉ (cxC CX P w K mg base fr qual scope f cd clos A outer s H E).ex := fun b z => absurd (show b ∈ ([] : List Addr) from z) (by simp)
  refine ⟨⟨e0.mod, S.kind, rfl, rfl, Nat.le_refl _, fun y z c h1 h2 => inj y z c h1 h2, fun y hy => ?_, fun y c z _ => (by cases z), fun _ => hd, Around.frames_deeper e0.frames, .inr ⟨rfl, rfl⟩, fun b z => absurd z (noA b), e0.bs, e0.bsz, fun b _ _ => noA b, fun b z => absurd z (noA b), e0.funs, e0.frf⟩,
    rfl, e0.bare, Un.kept hk, ⟨_, hns, fun i y v' h1 h2 h3 => ?_⟩, fun y c h => ?_, e0.hok.fresh (Nat.le_refl _), fun y c h => cl.non y c h, fun q hq => absurd (show q ∈ ([] : List (Addr × Obj)) from hq) (by simp), e0.hok.kept hk, ?_⟩
  · have hy : scope.names.lookup y = some .cell ∨ scope.names.lookup y = some .free := hy
    rcases hy with hy | hy
    · exact absurd rfl (S.nocell _ (PySem.mem_of_lookup hy))
    · obtain ⟨j, hj⟩ := List.mem_iff_getElem?.mp (S.only y hy)
      have hl : j < ws.length := by
        rw [lw]
        exact (List.getElem?_eq_some_iff.mp hj).1
      obtain ⟨c, _, e, _⟩ := cl.at_ j y ws[j] hj (List.getElem?_eq_getElem hl)
      exact ⟨c, e⟩
  · have h1 : fr[i]? = some y := h1
    rw [List.getElem?_map] at h2
    obtain ⟨z, ez, eq⟩ := Option.map_eq_some_iff.mp h2
    cases eq
    obtain ⟨c, u', e3, e4, e5⟩ := cl.at_ i y v' h1 ez
    obtain ⟨ob, e6, e7⟩ := e4
    exact ⟨u', e5, .inr ⟨.inr (S.fre y (List.mem_of_getElem? h1)), c, e3, ob, hk _ _ e6, e7⟩⟩
  · obtain ⟨z, ob, e1, e2⟩ := cl.all y c h
    exact ⟨z, ob, hk _ _ e1, e2⟩
  · show (ws.map some).length = fr.length
    rw [List.length_map, lw]
theorem run_lam0 {params : Arguments} {body : Expr} {pm ct : Value} {k : Nat} {Q : VK} {t : TE} (ho : s.heap.get? f = some { cls := .type "function", data := .func (PySem.W.kla_fn "<lambda>" qual params body scope clos pm cd ct) }) (hcd : s.heap.CodeRec cd qual)
    (S : CloScope0 fr scope) (inj : ∀ x y c, clos.lookup x = some c → clos.lookup y = some c → x = y) (cl : CellsAt s.heap H outer clos fr ws) (lw : ws.length = fr.length) (hr : Room (k + 1) A) (e0 : Env0 P w K mg base A outer s H)
    (hb : bindArgs (PySem.W.kla_fn "<lambda>" qual params body scope clos pm cd ct) ⟨[], []⟩ = pure [])
    (ht : PE (cxC CX P w K mg base fr qual scope f cd clos A outer s H E) body t) (hq : t (ws.map some) H Q) :
    codeAny (model P w) A (.call (.ref f) ⟨[], []⟩) (CR CX outer P w H s Q E) s := by
  have lim : s.heap.NoLimit := e0.mod.nolimit.keeps fun b o e => (e0.bs b o e).1
  refine PySem.W.kla_callFunE hr.depth ho rfl S.co S.gen rfl hcd ?_
  rw [hb]
  refine wpAny_pure (wpAny_newFunctionEnv (around := none) S.nocell (fun y hy => absurd hy (by simp)) (fun h' hns hsame => ?_) S.kind)
  have hk : ∀ b o, s.heap.get? b = some o → h'.get? b = some o := fun b o e => (hsame.2 b (Nat.ne_of_lt (Heap.lt_size e))).trans (Heap.get?_push_of_some _ e)
  refine ⟨lim.keeps hk, PySem.W.kla_codeExpr ?_⟩
  have I : Inv (cxC CX P w K mg base fr qual scope f cd clos A outer s H E) [] (ws.map some) H { s with heap := h', toks := s.toks + ([] : List (Str × Value)).length } := inv_start0 S inj hr.hd e0 cl lw hns hk
  exact wpAny_mono (ht [] _ _ H _ I hq) (fun _ s' ⟨v', H', J, rv, q⟩ => ⟨v', H', J.os, J.bare, J.base, J.hok, rv, q⟩) fun e s' hs => hs
theorem pass1c {N : List Str} {E' : XK} (hE : ∀ c d H', E' c d H' → E c d H') : Passes (CX1 P w) (cxC (CX1 P w) P w K mg base N qual scope f cd clos A outer s H E) E' := by
  intro pins σ H1 s1 e s' I h
  obtain ⟨ea, a0, cls, dct, H', h1, dead, B, rfl, os, bare, un, hok, hd, cov, fly, dc, up, ne1, ne2, k⟩ := h
  refine leavesD I.ok.frames rfl fly fun h2 x1 x2 dk => ?_
  have J : Inv (cxC (CX1 P w) P w K mg base N qual scope f cd clos A outer s H E) pins σ H' { s1 with heap := h1, gens := s'.gens, drawn := s'.drawn, toks := s'.toks } := I.call (ch := []) un hok bare fun b z => absurd z (by simp)
  refine ⟨ea, a0, cls, dct, H', h1, s.heap.objs.size :: dead, B, rfl, os.trans I.os, bare, J.base, hok, fun d hd' => ?_, fun b o q n1 n2 => ?_, x1, dc.kept dk, up.trans x2, ne1, ne2, hE _ _ _ k⟩
  · rcases List.mem_cons.mp hd' with rfl | z
    · exact ⟨J.free, Heap.get?_none_of_le (Nat.le_refl _)⟩
    · refine ⟨(hd d z).1, ?_⟩
      cases q : s.heap.get? d with
      | none => rfl
      | some o =>
        obtain ⟨o', e'⟩ := I.base.there d o q (by show d ∉ ([] : List Addr); simp)
        rw [(hd d z).2] at e'
        cases e'
  · refine cov b o q (fun z => n1 (List.mem_cons_of_mem _ z)) fun z => ?_
    obtain ⟨env, he, hf⟩ := List.mem_filterMap.mp z
    rcases List.mem_cons.mp he with rfl | he
    · exact n1 (by rw [show b = s.heap.objs.size from (Option.some.inj hf).symm]; exact List.mem_cons_self ..)
    · exact n2 (List.mem_filterMap.mpr ⟨env, he, hf⟩)
end
section
variable {X : Cx} {ps : List (Addr × Obj)} {W : St → XK} {i k : Nat} {f c : Addr} {x : Str} {fr : List Str} {qual : Str} {params : Arguments} {body : Expr} {scope : Scope} {clos : List (Str × Addr)} {pm ct : Value} {ws : List V} {p pos : Pos}
end
theorem Fun.okX {P : Program} {w : World} {K : PySem.W.Frag} {mg : Str → Option Value} {base : Heap} {x qual : Str} {st : Stmt} {f : Addr} {fd : FuncData} {N ps : List Str} {k : Nat} {sp : Sp} (F : Fun K x qual st f fd) (S : FnScope N ps (defScope st)) (len : ∀ vs H Q E, sp vs H Q E → vs.length = ps.length)
    (hbody : ∀ (cdv : Value) (A : Around) (outer : List Env) (s : Shared) (H : Hp) (vs : List V) (Q : VK) (E : XK), Room k (A.deeper (envOfC qual (defScope st) s.heap.objs.size f cdv)) → sp vs H Q E →
      ∃ t, PSs (cxOf (CX1 P w) P w K mg base N qual (defScope st) f cdv A outer s H E) (defBody st) t ∧ t { nx := fun _ H' => Q .non H', rt := Q } (start N vs) H) : FnOk P w K mg base (CX1 P w) (k + 1) f fd ps sp := by
  obtain ⟨oc, od, kV, doc, pm, an, cdv, ct, osl, rfl, lk, hcd⟩ := F.ex
  exact fn_of lk hcd S len fun A outer s H vs Q E hr hsp => hbody cdv A outer s H vs Q E hr hsp
end L2
set_option Elab.async false
set_option linter.all false
set_option maxRecDepth 100000
set_option maxHeartbeats 1000000
namespace L2
open PySem PySem.Spec PyProof.Rows
structure RaiseK (P : Program) (w : World) (K : PySem.W.Frag) (mg : Str → Option Value) (base : Heap) (x attr : Str) (C : Addr) : Prop where
  bound : mg x = some (.ref C)
  kp : PySem.W.keepIn K (.ref C) = true
  ex : ∃ (fI : Addr) (fd : FuncData) (ps : List Str), OwnI C fI bmVE "ValueError.__new__" base ∧ FnOk P w K mg base CX0 1 fI fd ps (spXInit C attr) ∧ Binds K fd ps [] ∧ PySem.W.typeIn K (.ref fI) = some (.type "function")
section
variable {P : Program} {w : World} {K : PySem.W.Frag} {mg : Str → Option Value} {base : Heap} {N : List Str} {qual : Str} {scope : Scope} {f : Addr} {cd : Value} {A : Around} {outer : List Env} {s : Shared} {H : Hp} {E : XK} {x attr : Str} {C : Addr} {np cpos pos : Pos} {e0 : Expr} {rest : List Expr} {t : TA} {k : Nat}
theorem ps_raiseK (R : RaiseK P w K mg base x attr C) (hr : Room k (cxOf (CX1 P w) P w K mg base N qual scope f cd A outer s H E).A) (hk : 2 ≤ k) (ha : PA (cxOf (CX1 P w) P w K mg base N qual scope f cd A outer s H E) (e0 :: rest) t)
    (hg : Gl (cxOf (CX1 P w) P w K mg base N qual scope f cd A outer s H E) x := by rfl) (hd : (x == ("__debug__" : Str)) = false := by decide)
    (he : starEach (e0 :: rest) (cxOf (CX1 P w) P w K mg base N qual scope f cd A outer s H E).env = (false, eval e0 (cxOf (CX1 P w) P w K mg base N qual scope f cd A outer s H E).env) :: starEach rest (cxOf (CX1 P w) P w K mg base N qual scope f cd A outer s H E).env := by rfl)
    (hpl : (backTo cpos (starEach rest (cxOf (CX1 P w) P w K mg base N qual scope f cd A outer s H E).env)).any (·.1) = false := by rfl) :
    PS (cxOf (CX1 P w) P w K mg base N qual scope f cd A outer s H E) (.Raise (some (.Call (.Name x np) (e0 :: rest) [] cpos)) none pos) (fun _ σ H => t σ H fun vs H1 => ∃ i, vs = [.int i] ∧ 0 ≤ i ∧ i < 128 ∧ ∀ dx, H1 dx = none → E (.ref C) (some dx) (upd H1 dx (.xd [(attr, .int i)]))) := by
  obtain ⟨fI, fd, ps, O, F, hb, tf⟩ := R.ex
  exact ps_raise3 O F PySem.F.excBase_ValueError (by decide) PySem.F.excBase_ValueError (hr.mono hk) hb tf R.kp R.bound rfl ha (fun dx H => E (.ref C) (some dx) H) (fun pins σ H s e dx I hs he k => raise_leaves2 I hs he k) hg hd he hpl
theorem FnOk.up {ps : List Str} {sp : Sp} {fd : FuncData} (F : FnOk P w K mg base CX0 k f fd ps sp) : FnOk P w K mg base (CX1 P w) k f fd ps sp :=
  ⟨F.len, fun A outer s H args us vs Q E hr e0 hb r h => codeAny_mono (F.run A outer s H args us vs Q E hr e0 hb r h) fun r s' q => by
    cases r with
    | error e => exact False.elim q
    | ok fl => cases fl <;> exact q⟩
theorem FnOk.orElse {CX : CXT} {ps : List Str} {sp sp' : Sp} {fd : FuncData} (F : FnOk P w K mg base CX k f fd ps sp) (F' : FnOk P w K mg base CX k f fd ps sp') : FnOk P w K mg base CX k f fd ps (fun vs H Q E => sp vs H Q E ∨ sp' vs H Q E) :=
  ⟨fun vs H Q E h => h.elim (F.len vs H Q E) (F'.len vs H Q E), fun A outer s H args us vs Q E hr e0 hb r h => h.elim (F.run A outer s H args us vs Q E hr e0 hb r) (F'.run A outer s H args us vs Q E hr e0 hb r)⟩
structure DfX (P : Program) (w : World) (K : PySem.W.Frag) (mg : Str → Option Value) (base : Heap) (k : Nat) (x : Str) (ps : List Str) (sp : Sp) : Prop where
  ex : ∃ (f : Addr) (fd : FuncData), FnOk P w K mg base (CX1 P w) k f fd ps sp ∧ mg x = some (.ref f) ∧ PySem.W.keepIn K (.ref f) = true ∧ Binds K fd ps []
end
section
variable {X : Cx} {k : Nat} {x : Str} {ps : List Str} {sp : Sp} {E : XK} {p pos : Pos} {e : Expr} {es : List Expr} {t : TA}
theorem qcallX (D : DfX X.prog X.w X.K X.mg X.base k x ps sp) (hr : Room k X.A) (hx : Passes (CX1 X.prog X.w) X E) (ha : PA X (e :: es) t) (hg : Gl X x := by rfl) (hdb : (x == ("__debug__" : Str)) = false := by decide) (he : starEach (e :: es) X.env = (false, eval e X.env) :: starEach es X.env := by rfl) (hpl : (backTo pos (starEach es X.env)).any (·.1) = false := by rfl) :
    PE X (.Call (.Name x p) (e :: es) [] pos) (tCall sp [] E t) := by
  obtain ⟨f, fd, F, hm, hk, hb⟩ := D.ex
  exact pe_call F hr hg hm hk hb .nil hx ha hdb he hpl
end
end L2
set_option Elab.async false
set_option linter.all false
set_option maxRecDepth 100000
set_option maxHeartbeats 1000000
set_option pp.maxSteps 600
set_option pp.deepTerms false
namespace Tm
open PySem L2
def rowB (rows : Int) : List V → Bool
  | .str z :: args => (match shapesL.lookup z with | some ks => decide (args.length = ks.length) && (args.zip ks).all (fun p => valueB p.1 p.2 rows) | none => false)
  | _ => false
def OdR (H : Hp) (rows : Int) (v : V) (b : Bool) : Prop := ((∃ i, v = .int i) ∨ ∃ z, v = .str z) ∧ b = false ∨ ∃ t xs, v = .ref t ∧ H t = some (.tup xs) ∧ xs.length ≤ 100 ∧ (∀ x ∈ xs, Typed H x) ∧ b = rowB rows xs
theorem Typed.same {H H' : Hp} {v : V} (h : Typed H v) (s : Same H H') : Typed H' v := by
  cases v with
  | ref a =>
    rcases h with ⟨xs, h⟩ | ⟨xs, h⟩
    · exact .inl ⟨xs, s _ _ h⟩
    · exact .inr ⟨xs, s _ _ h⟩
  | _ => exact h
theorem OdR.same {H H' : Hp} {rows : Int} {v : V} {b : Bool} (h : OdR H rows v b) (s : Same H H') : OdR H' rows v b := by
  rcases h with h | ⟨t, xs, e, ht, l, ty, eb⟩
  · exact .inl h
  · exact .inr ⟨t, xs, e, s _ _ ht, l, fun x hx => (ty x hx).same s, eb⟩
theorem fits_all {rows : Int} : ∀ {vs : List V} {ks : List Str}, Fits rows vs ks → (vs.zip ks).all (fun p => valueB p.1 p.2 rows) = true
  | [], [], _ => rfl
  | [], _ :: _, h => h.elim
  | _ :: _, [], h => h.elim
  | v :: vs, k :: ks, h => by
    rw [List.zip_cons_cons, List.all_cons, fits_all h.2]
    show (valueB v k rows && true) = true
    rw [h.1]
    rfl
theorem dnat {a b : Nat} : decide (V.int (a : Int) = V.int (b : Int)) = decide (a = b) := decide_eq_decide.mpr ⟨fun h => by have := V.int.inj h; omega, fun h => by rw [h]⟩
theorem rowB_str {rows : Int} {z : Str} {args : List V} : rowB rows (.str z :: args) = (match shapesL.lookup z with | some ks => decide (args.length = ks.length) && (args.zip ks).all (fun p => valueB p.1 p.2 rows) | none => false) := rfl
theorem rowB_ok {rows : Int} (x : Rw) (h : ROk rows x) : rowB rows x.vals = true := by
  have f := fits_row x h
  rw [x.vals_eq]
  rw [rowB_str, shapes_row x]
  dsimp only
  rw [fits_all f, f.length, decide_eq_true rfl]
  rfl
theorem IsR.od {H : Hp} {rows : Int} {x : Rw} {v : V} (i : IsR H x v) (h : ROk rows x) (hr : rows ≤ 1000) : OdR H rows v true := by
  obtain ⟨p, rfl, hp⟩ := i
  refine .inr ⟨p, _, rfl, hp, ?_, fun y hy => ?_, (rowB_ok x h).symm⟩
  · have := vals_len x
    omega
  · exact (vals_ok hr x h y hy).typed
theorem look_none {K : PySem.W.Frag} {x : Str} : ∀ {kvs : List (Key × V)} {l : List (Str × List Str)}, Paired (fun (kv : Key × V) (e : Str × List Str) => kv.1 = .inr e.1 ∧ ∃ t, kv.2 = .ref t ∧ ∀ H, SqT K H t (e.2.map V.str)) kvs l → l.lookup x = none → valV kvs (.inr x) = none
  | _, _, .nil, h => rfl
  | _, _, .cons (a := kv) (b := e) (l₁ := kvs) (l₂ := l) r q, h => by
    obtain ⟨e1, t, e2, e3⟩ := r
    obtain ⟨k, v⟩ := kv
    obtain ⟨y, ks'⟩ := e
    cases e1
    by_cases c : x = y
    · subst c
      rw [List.lookup_cons_self] at h
      cases h
    · have hb : (x == y) = false := beq_eq_false_iff_ne.mpr c
      rw [List.lookup_cons, hb] at h
      rw [valV_neg (fun z => c (Sum.inr.inj z).symm)]
      exact look_none q h
def spIsRowG : Sp := fun vs H Q _ => ∃ (rv : V) (rows : Int) (b : Bool), vs = [rv, .int rows] ∧ OdR H rows rv b ∧ ∀ H', Same H H' → Q (.bl b) H'
section
variable {P : Program} {w : World} {K : PySem.W.Frag} {mg : Str → Option Value} {base : Heap}
theorem ok_is_rowG {f : Addr} {fd : FuncData} (F : Fun K "is_row" "is_row" s_is_row f fd) (T : Tx mg) (S : ShapesAt w K mg) (D_is_value : Df P w K mg base 3 "is_value" P_is_value [] spIsValue) : FnOk P w K mg base CX0 4 f fd P_is_row spIsRowG := by
  have sc := sc_is_row
  obtain ⟨sa, kvs, D_SHAPES, M_SHAPES, hkv⟩ := S.ex
  refine F.ok sc (fun vs H Q E h => ?_) (fun cdv A outer s H vs Q E hr h => ?_)
  · obtain ⟨v, rows, b, rfl, _⟩ := h
    rfl
  obtain ⟨rv, rows, b, rfl, od, k⟩ := h
  have hu := hu_of hr
  have hu64 := hr.units
  refine ⟨_, ((pss_cons (ps_if (PW.pt (pw_or (pt_not (pt_val (qisi (isi_tuple _) T.isinstance T.tuple (qv 0)))) (pw_or1 (pt_not (pt_truth (qv 0) (by intro _; rfl))))))
  (pss_one (ps_ret pe_bl))
  pss_nil)
  (pss_cons (ps_if (PW.pt (pw_or (pt_not (pt_val (qisi (isi_str _) T.isinstance T.str (pe_ix (iq K hu) (qv 0) pe_int (fun _ _ => rfl))))) (pw_or1 (pt_cmp (pk_notin D_SHAPES M_SHAPES (pe_ix (iq K hu) (qv 0) pe_int (fun _ _ => rfl)))))))
  (pss_one (ps_ret pe_bl))
  pss_nil)
  (pss_cons (ps_set (i := 2) sc.nd rfl (by first | exact Or.inl rfl | exact Or.inr rfl) (pk_get D_SHAPES M_SHAPES (pe_ix (iq K hu) (qv 0) pe_int (fun _ _ => rfl))))
  (pss_cons (ps_set (i := 3) sc.nd rfl (by first | exact Or.inl rfl | exact Or.inr rfl) (pe_slice (sq_tup K) (qv 0) (po_some pe_int) po_none))
  (pss_cons (ps_if (pt_cmpR (oq_ne K hu64) (pe_callB (cq_len K) (by rfl) T.len (by decide +kernel) (pa_cons (qv 3) pa_nil)) (pe_callB (cq_len K) (by rfl) T.len (by decide +kernel) (pa_cons (qv 2) pa_nil)) (nomark _))
  (pss_one (ps_ret pe_bl))
  pss_nil)
  (pss_one (ps_ret (pe_callB (cr_all rfl) (by rfl) T.all (by decide +kernel) (pa_cons (pe_lc (own := [("value", 4), ("kind", 5)]) (g := gTup K 2 (gCons (gName 4) (gCons (gName 5) gNil))) (by rfl) sc.nd ((pi_zip2 true true) (by rfl) T.zip (pa_cons (qv 3) (pa_cons (qv 2) pa_nil))) (blkOk_by (own := [("value", 4), ("kind", 5)]) (N := N_is_row) (sc := defScope s_is_row) (by decide +kernel)) (fun _ _ _ _ _ => (pg_tup (by rfl) (pgs_cons (pg_name (i := 4) sc.nd rfl (by first | exact Or.inl rfl | exact Or.inr rfl)) (pgs_cons (pg_name (i := 5) sc.nd rfl (by first | exact Or.inl rfl | exact Or.inr rfl)) pgs_nil)))) (fun _ _ _ _ _ => pts_nil) (fun _ _ _ _ _ => (qcall D_is_value (by first | exact hr | exact hr.mono (by omega)) (pa_cons (qv 4) (pa_cons (qv 5) (pa_cons (qv 1) pa_nil)))))) pa_nil))))))))) : PSs _ (_ :: _) _), ?_⟩
  have k0 := k H (Same.refl H)
  rcases od with ⟨⟨i, rfl⟩ | ⟨z, rfl⟩, rfl⟩ | ⟨t, xs, rfl, ht, lx, ty, rfl⟩
  · exact ⟨_, rfl, iteT k0⟩
  · exact ⟨_, rfl, iteT k0⟩
  have hP := SqT.of (K := K) ht
  cases xs with
  | nil => exact .inl ⟨_, ht, _, rfl, iteF ⟨false, .inr (.inl ⟨_, hP, rfl⟩), iteT k0⟩⟩
  | cons a args =>
  refine .inl ⟨_, ht, _, rfl, iteF ⟨true, .inr (.inl ⟨_, hP, rfl⟩), iteF ?_⟩⟩
  refine .inr (.inl ⟨_, _, hP, at0 _ _, ?_⟩)
  have tya := ty a (by simp)
  cases a with
  | int i => exact ⟨_, rfl, iteT k0⟩
  | bl b => exact ⟨_, rfl, iteT k0⟩
  | non => exact ⟨_, rfl, iteT k0⟩
  | ref a =>
    rcases tya with ⟨ys, hy⟩ | ⟨ys, hy⟩
    · exact .inl ⟨_, hy, _, rfl, iteT k0⟩
    · exact .inr ⟨_, hy, _, rfl, iteT k0⟩
  | byt _ => exact tya.elim
  | flt _ => exact tya.elim
  | ty _ => exact tya.elim
  | str z =>
    refine ⟨_, rfl, iteF (.inr (.inl ⟨_, _, hP, at0 _ _, ?_⟩))⟩
    refine ⟨_, rfl, ?_⟩
    cases el : shapesL.lookup z with
    | none =>
      have eb : rowB rows (.str z :: args) = false := by
        rw [rowB_str, el]
      rw [eb] at k0
      rw [look_none hkv el]
      exact iteT k0
    | some ks =>
    obtain ⟨t', ht', hk⟩ := look_shapes hkv el
    have eb : rowB rows (.str z :: args) = (decide (args.length = ks.length) && (args.zip ks).all (fun p => valueB p.1 p.2 rows)) := by
      rw [rowB_str, el]
    rw [ht']
    refine iteF (.inr (.inl ⟨_, _, hP, at0 _ _, ?_⟩))
    show (match valV kvs (.inr z) with | some v => _ | none => False)
    rw [ht']
    refine ⟨_, rfl, _, _, rfl, hP, cut1_ne _ _, fun q hq => ?_⟩
    rw [cut1]
    have s1 := same_new hq (.tup args)
    have hq1 : upd H q (.tup args) q = some (.tup args) := upd_same
    generalize upd H q (.tup args) = H1 at s1 hq1
    refine .inr (.inl ⟨_, SqT.of hq1, .inr (.inl ⟨_, hk H1, rfl, ?_⟩)⟩)
    refine ⟨_, rfl, ?_⟩
    rw [List.length_map, dnat]
    rcases (Classical.em (args.length = ks.length)).symm with hlen | hlen
    · rw [show decide (args.length = ks.length) = false from decide_eq_false hlen] at eb ⊢
      have k1 := k H1 s1
      rw [eb] at k1
      exact iteT k1
    rw [decide_eq_true hlen] at eb ⊢
    rw [Bool.true_and] at eb
    refine iteF ?_
    refine ⟨_, _, _, _, rfl, SqT.of hq1, hk H1, fun D hD => ?_⟩
    have lz : (args.zip ks).length = args.length := by rw [List.length_zip]; omega
    have lm : (ks.map V.str).length = args.length := by rw [List.length_map]; omega
    refine lc_by (n := args.length) (fun i H2 => Same H1 H2 ∧ H2 D = some (.lst ((((args.zip ks).take i).map fun p => valueB p.1 p.2 rows).map V.bl))) ⟨same_new hD _, upd_same⟩ ?_ ?_ ?_ ?_
    · rintro i H2 hi ⟨s2, d2⟩
      exact ⟨_, _, args[i], (ks.map V.str)[i]'(by omega), SqT.of (s2 _ _ hq1), hk H2, List.getElem?_eq_getElem hi, List.getElem?_eq_getElem (by omega)⟩
    · rintro H2 ⟨s2, d2⟩
      exact ⟨_, _, SqT.of (s2 _ _ hq1), hk H2, Nat.le_refl _, by omega, .inl rfl⟩
    · rintro i H2 v H2' hi ⟨s2, d2⟩ ⟨T, y, z', rfl, hT, rfl, hy, hz⟩
      have hy := hy _ (SqT.of (s2 _ _ hq1))
      have hz := hz _ (hk H2)
      obtain ⟨kd, ekd, rfl⟩ : ∃ kd, ks[i]? = some kd ∧ z' = .str kd := by
        rw [List.getElem?_map] at hz
        obtain ⟨kd, e1, e2⟩ := Option.map_eq_some_iff.mp hz
        exact ⟨kd, e1, e2.symm⟩
      have st := same_new hT (.tup [y, .str kd])
      refine ⟨_, _, rfl, SqT.of upd_same, rfl, _, _, rfl, _, _, rfl, rfl, rfl, ?_⟩
      have ty1 : Typed H y := ty y (List.mem_cons_of_mem _ (List.mem_of_getElem? hy))
      refine ⟨y, kd, rows, rfl, ty1.same ((s1.trans s2).trans st), fun H3 s3 => ?_⟩
      have d3 := s3 _ _ (st _ _ d2)
      refine ⟨_, d3, ?_, fun b o e => ?_, ?_⟩
      · have l4 : args.length ≤ 100 := by
          rw [List.length_cons] at lx
          omega
        rw [List.length_map, List.length_map]
        exact small1000 (Nat.le_trans (List.length_take_le' _ _) (by omega))
      · rw [upd_ne (ne_of_none e hD)]
        exact s3 _ _ (st _ _ (s2 _ _ e))
      · have ez : (args.zip ks)[i]? = some (y, kd) := by
          rw [List.getElem?_zip_eq_some]
          exact ⟨hy, ekd⟩
        rw [upd_same, List.take_succ, ez]
        simp
    · rintro H2 ⟨s2, d2⟩
      have hall : (args.zip ks).take args.length = args.zip ks := by rw [← lz, List.take_length]
      rw [hall] at d2
      refine ⟨D, (args.zip ks).map fun p => valueB p.1 p.2 rows, rfl, SqL.of d2, ?_⟩
      have e : ((args.zip ks).map fun p => valueB p.1 p.2 rows).all id = (args.zip ks).all (fun p => valueB p.1 p.2 rows) := by
        rw [List.all_map]
        rfl
      rw [e, ← eb]
      exact k H2 (s1.trans s2)
def BadAt (H : Hp) (vs : List V) (i : Nat) : Prop := (∀ (j : Nat) (v : V), j < i → vs[j]? = some v → OdR H vs.length v true) ∧ i ≤ 60 ∧ ∃ v, vs[i]? = some v ∧ (i = 60 ∨ OdR H vs.length v false)
theorem BadAt.same {H H' : Hp} {vs : List V} {i : Nat} (h : BadAt H vs i) (s : Same H H') : BadAt H' vs i := by
  obtain ⟨a, b, v, c, d⟩ := h
  exact ⟨fun j v l e => (a j v l e).same s, b, v, c, d.imp id fun z => z.same s⟩
def PBad (H : Hp) (v : V) (i : Nat) : Prop := ∃ p vs, v = .ref p ∧ H p = some (.tup vs) ∧ vs.length ≤ 1000 ∧ (vs = [] ∧ i = 0 ∨ BadAt H vs i)
theorem PBad.same {H H' : Hp} {v : V} {i : Nat} (h : PBad H v i) (s : Same H H') : PBad H' v i := by
  obtain ⟨p, vs, a, b, c, d⟩ := h
  exact ⟨p, vs, a, s _ _ b, c, d.imp id fun z => z.same s⟩
def spFirstG : Sp := fun vs H Q _ => ∃ (p : Addr) (us : List V) (i : Nat), vs = [.ref p] ∧ H p = some (.tup us) ∧ us.length ≤ 1000000 ∧ BadAt H us i ∧ ∀ H', Same H H' → Q (.int i) H'
theorem ok_first_wrongG {f : Addr} {fd : FuncData} (F : Fun K "first_wrong" "first_wrong" s_first_wrong f fd) (T : Tx mg) (G : Gc mg) (D_is_row : Df P w K mg base 4 "is_row" P_is_row [] spIsRowG) : FnOk P w K mg base CX0 5 f fd P_first_wrong spFirstG := by
  have sc := sc_first_wrong
  refine F.ok sc (fun vs H Q E h => ?_) (fun cdv A outer s H vs Q E hr h => ?_)
  · obtain ⟨p, us, i, rfl, _⟩ := h
    rfl
  obtain ⟨p, vs, at_, rfl, hp, lv, ⟨good, i60, vi, evi, bad⟩, k⟩ := h
  have hu := hu_of hr
  have hu64 := hr.units
  have hiv : at_ < vs.length := (List.getElem?_eq_some_iff.mp evi).1
  refine ⟨_, ((pss_cons (ps_for PassesOwn.never rfl ((pi_enum2 true) (by rfl) T.enumerate (pa_cons (qv 0) pa_nil)) (pg_tup (by rfl) (pgs_cons (pg_name (i := 1) sc.nd rfl (by first | exact Or.inl rfl | exact Or.inr rfl)) (pgs_cons (pg_name (i := 2) sc.nd rfl (by first | exact Or.inl rfl | exact Or.inr rfl)) pgs_nil)))
  (pss_one (ps_if (PW.pt (pw_or (pt_cmpR (oq_eq K hu64) (qv 1) (pe_globI G.MOST_ROWS) (nomark _)) (pw_or1 (pt_not (pt_val (qcall D_is_row (by first | exact hr | exact hr.mono (by omega)) (pa_cons (qv 2) (pa_cons (pe_callB (cq_len K) (by rfl) T.len (by decide +kernel) (pa_cons (qv 0) pa_nil)) pa_nil))))))))
  (pss_one (ps_ret (qv 1)))
  pss_nil)))
  (pss_one (ps_ret pe_non))) : PSs _ (_ :: _) _), ?_⟩
  refine ⟨_, _, rfl, SqT.of hp, ?_⟩
  refine for_by (n := vs.length) (fun i σ H2 => i ≤ at_ ∧ Same H H2 ∧ ∃ a b, σ = [some (.ref p), a, b]) ⟨Nat.zero_le _, Same.refl H, _, _, rfl⟩ ?_ ?_ ?_ ?_
  · rintro i σ H2 hi ⟨li, s2, _⟩
    exact ⟨_, vs[i], SqT.of (s2 _ _ hp), List.getElem?_eq_getElem hi⟩
  · rintro σ H2 ⟨li, s2, _⟩
    exact ⟨_, SqT.of (s2 _ _ hp), rfl⟩
  · rintro i σ H2 v H2' hi ⟨li, s2, a, b, rfl⟩ ⟨T', y, rfl, hT, rfl, hy⟩
    have hy := hy _ (SqT.of (s2 _ _ hp))
    have st := same_new hT (.tup [.int (i : Nat), y])
    refine ⟨_, _, rfl, SqT.of upd_same, rfl, _, _, rfl, _, _, rfl, rfl, ?_⟩
    have hp3 := st _ _ (s2 _ _ hp)
    refine ⟨rfl, _, rfl, ?_⟩
    by_cases c60 : i = 60
    · subst c60
      have e60 : at_ = 60 := by omega
      subst e60
      exact iteT' (by decide +kernel) (k _ (s2.trans st))
    have n60 : decide (V.int (i : Nat) = V.int 60) = false := decide_eq_false fun z => by
      have z := V.int.inj z
      omega
    refine iteF' n60 ?_
    refine .inr (.inl ⟨_, SqT.of hp3, ?_⟩)
    by_cases ci : i = at_
    · subst ci
      obtain rfl : vi = y := Option.some.inj (evi.symm.trans hy)
      rcases bad with bad | bad
      · exact absurd bad c60
      · exact ⟨vi, _, false, rfl, (bad.same s2).same st, fun H3 s3 => ⟨_, rfl, iteT (k _ ((s2.trans st).trans s3))⟩⟩
    · exact ⟨y, _, true, rfl, ((good i y (by omega) hy).same s2).same st, fun H3 s3 => ⟨_, rfl, iteF ⟨by omega, (s2.trans st).trans s3, _, _, rfl⟩⟩⟩
  · rintro σ H2 ⟨li, _⟩
    omega
end
end Tm
set_option Elab.async false
set_option linter.all false
set_option maxRecDepth 100000
set_option maxHeartbeats 1000000
namespace Tm
open PySem L2 TL
def figL : List Nat → List Nat
  | 45 :: r => r
  | l => l
theorem tl_figs (w : Str) : tl (Txt.removeprefix w "-") = figL (tl w) := by
  have ey : tl (Str.ofString "-") = [45] := by decide +kernel
  have ly : (Str.ofString "-").length = 1 := by decide +kernel
  rw [StrLaws.removeprefix_eq]
  by_cases c : ∃ r, tl w = 45 :: r
  · obtain ⟨r, t⟩ := c
    have lx : w.length = r.length + 1 := by rw [len_tl, t, List.length_cons]
    rw [if_pos, t]
    · rw [ly]
      show (List.take _ (List.drop 1 (tl w))) = _
      rw [t, lx]
      exact List.take_length
    · refine Bool.and_eq_true_iff.mpr ⟨decide_eq_true (by rw [ly, lx]; omega), ?_⟩
      rw [StrLaws.subAt_eq, ly]
      show (((tl w).drop 0).take 1 == tl (Str.ofString "-")) = true
      rw [t, ey]
      rfl
  · rw [if_neg]
    · show tl w = _
      unfold figL
      split
      · rename_i r e
        exact absurd ⟨r, e⟩ c
      · rfl
    · intro z
      have z2 := (Bool.and_eq_true_iff.mp z).2
      rw [StrLaws.subAt_eq, ly] at z2
      have e : ((tl w).drop 0).take 1 = tl (Str.ofString "-") := eq_of_beq z2
      rw [ey, List.drop_zero] at e
      cases hw : tl w with
      | nil => rw [hw] at e; cases e
      | cons a r =>
        rw [hw] at e
        have : a = 45 := by simpa using e
        exact c ⟨r, by rw [hw, this]⟩
def figB (c : Nat) : Bool := decide (c ∈ (Str.ofString "0123456789").cps.toList)
theorem figB_iff {c : Nat} : figB c = true ↔ 48 ≤ c ∧ c ≤ 57 := by
  have e : (Str.ofString "0123456789").cps.toList = [48, 49, 50, 51, 52, 53, 54, 55, 56, 57] := by decide +kernel
  unfold figB
  rw [decide_eq_true_iff, e]
  simp
  omega
def shapeN (w : Str) : Bool := (decide (1 ≤ (figL (tl w)).length) && decide ((figL (tl w)).length ≤ 5)) && (figL (tl w)).all figB
theorem val_lt : ∀ (cs : List Nat) (a k : Nat), NumText.AllDigits cs → a < 10 ^ k → cs.foldl (fun acc c => acc * 10 + (c - 48)) a < 10 ^ (k + cs.length)
  | [], a, k, _, h => h
  | c :: cs, a, k, d, h => by
    have hc := d.head
    have := val_lt cs (a * 10 + (c - 48)) (k + 1) d.tail (by rw [Nat.pow_succ]; omega)
    rw [List.foldl_cons, List.length_cons, show k + (cs.length + 1) = k + 1 + cs.length by omega]
    exact this
theorem figL_len (l : List Nat) : l.length ≤ (figL l).length + 1 := by
  unfold figL
  split
  · rw [List.length_cons]; omega
  · omega
theorem shape_int {w : Str} (h : shapeN w = true) : ∃ n : Int, intText? w = some n ∧ n.natAbs < 100000 ∧ w.length ≤ 6 := by
  unfold shapeN at h
  rw [Bool.and_eq_true_iff, Bool.and_eq_true_iff] at h
  obtain ⟨⟨h1, h2⟩, h3⟩ := h
  have h1 := of_decide_eq_true h1
  have h2 := of_decide_eq_true h2
  have hd : NumText.AllDigits (figL (tl w)) := fun c hc => figB_iff.mp (List.all_eq_true.mp h3 c hc)
  have hl : w.length ≤ 6 := by
    have := figL_len (tl w)
    rw [len_tl]
    omega
  have hne : figL (tl w) ≠ [] := fun z => by rw [z] at h1; exact absurd h1 (by decide)
  have hv : NumText.digitsVal (figL (tl w)) < 100000 := by
    have := val_lt (figL (tl w)) 0 0 hd (by decide)
    refine Nat.lt_of_lt_of_le this ?_
    rw [Nat.zero_add]
    exact Nat.pow_le_pow_right (by decide) h2
  by_cases c : ∃ r, tl w = 45 :: r
  · obtain ⟨r, t⟩ := c
    rw [t] at hd hne hv
    have e := intText_neg (x := w) t hd hne (by omega)
    refine ⟨_, e, ?_, hl⟩
    show ((-((NumText.digitsVal r : Nat) : Int))).natAbs < _
    have hv : NumText.digitsVal r < 100000 := hv
    omega
  · have e : figL (tl w) = tl w := by
      unfold figL
      split
      · rename_i r e
        exact absurd ⟨r, e⟩ c
      · rfl
    rw [e] at hd hne hv
    have e := intText_digits (x := w) hd hne (by omega)
    refine ⟨_, e, ?_, hl⟩
    have : (tl w) = w.cps.toList := rfl
    rw [← this]
    omega
def readN (w : Str) : V := if shapeN w = true then (match intText? w with | some n => if numS n = w then .int n else .non | none => .non) else .non
def readR (w : Str) : V := if w = Str.ofString "-" then .str (Str.ofString "") else if w = Str.ofString "" then .non else .str w
def readV (w k : Str) : V := if k = "rights" then readR w else readN w
theorem readN_cases (w : Str) : readN w = .non ∨ ∃ n : Int, readN w = .int n ∧ n.natAbs < 100000 := by
  unfold readN
  split
  · rename_i h
    obtain ⟨n, e, b, _⟩ := shape_int h
    rw [e]
    dsimp only
    split
    · exact .inr ⟨n, rfl, b⟩
    · exact .inl rfl
  · exact .inl rfl
theorem readV_cases (w k : Str) : readV w k = .non ∨ (∃ n : Int, readV w k = .int n ∧ n.natAbs < 100000) ∨ ∃ z, readV w k = .str z ∧ z.length ≤ w.length := by
  unfold readV
  split
  · unfold readR
    split
    · exact .inr (.inr ⟨_, rfl, Nat.zero_le _⟩)
    · split
      · exact .inl rfl
      · exact .inr (.inr ⟨_, rfl, Nat.le_refl _⟩)
  · rcases readN_cases w with h | h
    · exact .inl h
    · exact .inr (.inl h)
theorem log_small {n : Int} (h : n.natAbs < 100000) : n.natAbs.log2 < 1920 := by
  by_cases c : n.natAbs = 0
  · rw [c]
    decide
  · have : n.natAbs.log2 < 17 := (Nat.log2_lt c).mpr (by show n.natAbs < 131072; omega)
    omega
theorem spl_ne (S : List Nat) : ∀ (k : Nat) (acc l : List Nat), spl S k acc l ≠ []
  | k, acc, [] => by rw [spl_nil]; exact List.cons_ne_nil _ _
  | 0, acc, c :: r => by
    show (if pre S (c :: r) = true then acc :: spl S (S.length - 1) [] r else spl S 0 (acc ++ [c]) r) ≠ []
    split
    · exact List.cons_ne_nil _ _
    · exact spl_ne S 0 _ r
  | k + 1, acc, _ :: r => spl_ne S k acc r
theorem spl_len (S : List Nat) : ∀ (k : Nat) (acc l : List Nat), ∀ p ∈ spl S k acc l, p.length ≤ acc.length + l.length
  | k, acc, [], p, h => by
    rw [spl_nil] at h
    rw [List.mem_singleton.mp h]
    exact Nat.le_add_right _ _
  | 0, acc, c :: r, p, h => by
    have h : p ∈ (if pre S (c :: r) = true then acc :: spl S (S.length - 1) [] r else spl S 0 (acc ++ [c]) r) := h
    rw [List.length_cons]
    split at h
    · rcases List.mem_cons.mp h with h | h
      · rw [h]; omega
      · have := spl_len S _ [] r p h
        rw [List.length_nil] at this
        omega
    · have := spl_len S 0 _ r p h
      rw [List.length_append, List.length_cons, List.length_nil] at this
      omega
  | k + 1, acc, c :: r, p, h => by
    have := spl_len S k acc r p h
    rw [List.length_cons]
    omega
theorem spl_many (S : List Nat) : ∀ (k : Nat) (acc l : List Nat), (spl S k acc l).length ≤ l.length + 1
  | k, acc, [] => by rw [spl_nil]; exact Nat.le_refl _
  | 0, acc, c :: r => by
    show (if pre S (c :: r) = true then acc :: spl S (S.length - 1) [] r else spl S 0 (acc ++ [c]) r).length ≤ _
    rw [List.length_cons]
    split
    · have := spl_many S (S.length - 1) [] r
      rw [List.length_cons]
      omega
    · have := spl_many S 0 (acc ++ [c]) r
      omega
  | k + 1, acc, c :: r => by
    have := spl_many S k acc r
    rw [List.length_cons]
    show (spl S k acc r).length ≤ _
    omega
theorem cut_spl {w y : Str} (hy : tl y ≠ []) (hk : y.cps.all (· < 256) = true) : (Txt.split w y).map tl = spl (tl y) 0 [] (tl w) := split_spl w y hy (kind_ok hk)
theorem cut_ne {w y : Str} (hy : tl y ≠ []) (hk : y.cps.all (· < 256) = true) : Txt.split w y ≠ [] := fun z => by
  have e := cut_spl (w := w) hy hk
  rw [z] at e
  exact spl_ne _ _ _ _ e.symm
theorem cut_len {w y : Str} (hy : tl y ≠ []) (hk : y.cps.all (· < 256) = true) : ∀ p ∈ Txt.split w y, p.length ≤ w.length := fun p hp => by
  have e := cut_spl (w := w) hy hk
  have := spl_len (tl y) 0 [] (tl w) (tl p) (by rw [← e]; exact List.mem_map_of_mem hp)
  rw [List.length_nil] at this
  rw [len_tl p, len_tl w]
  omega
theorem cut_many {w y : Str} (hy : tl y ≠ []) (hk : y.cps.all (· < 256) = true) : (Txt.split w y).length ≤ w.length + 1 := by
  have e := cut_spl (w := w) hy hk
  have := spl_many (tl y) 0 [] (tl w)
  rw [← e, List.length_map] at this
  rw [len_tl w]
  exact this
theorem blank_ne : tl (Str.ofString " ") ≠ [] := by decide +kernel
theorem line_ne : tl (Str.ofString "\n") ≠ [] := by decide +kernel
theorem blank_k : (Str.ofString " ").cps.all (· < 256) = true := by decide +kernel
theorem line_k : (Str.ofString "\n").cps.all (· < 256) = true := by decide +kernel
def wordsOf (l : Str) : List Str := Txt.split l (Str.ofString " ")
def linesOf (t : Str) : List Str := Txt.split t (Str.ofString "\n")
def headW (l : Str) : Str := (wordsOf l).headD (Str.ofString "")
def kindsW (z : Str) : List Str := (shapesL.lookup z).getD []
def rowV (l : Str) : List V := if (wordsOf l).tail.length = (kindsW (headW l)).length then .str (headW l) :: ((wordsOf l).tail.zip (kindsW (headW l))).map (fun p => readV p.1 p.2) else []
theorem words_eq (l : Str) : wordsOf l = headW l :: (wordsOf l).tail := by
  unfold headW
  cases h : wordsOf l with
  | nil => exact absurd h (cut_ne blank_ne blank_k)
  | cons a r => rfl
theorem kinds_small : ∀ z : Str, (kindsW z).length ≤ 3 := fun z => by
  unfold kindsW
  cases h : shapesL.lookup z with
  | none => exact Nat.zero_le _
  | some ks =>
    have hm : ∀ p ∈ shapesL, p.2.length ≤ 3 := by decide +kernel
    exact hm (z, ks) (by
      clear hm
      revert h
      generalize shapesL = L
      induction L with
      | nil => intro h; cases h
      | cons a L ih =>
        obtain ⟨y, k2⟩ := a
        intro h
        by_cases c : z = y
        · subst c
          rw [List.lookup_cons_self] at h
          cases h
          exact List.mem_cons_self ..
        · rw [List.lookup_cons, show (z == y) = false from beq_eq_false_iff_ne.mpr c] at h
          exact List.mem_cons_of_mem _ (ih h))
end Tm
set_option Elab.async false
set_option linter.all false
set_option maxRecDepth 100000
set_option maxHeartbeats 1000000
set_option pp.maxSteps 600
set_option pp.deepTerms false
namespace Tm
open PySem L2 TL
theorem small_m {n : Nat} (h : n ≤ 1000000) : n < sizeLine := Nat.lt_of_le_of_lt h (by decide)
theorem small_le {n : Nat} (h : n ≤ 1000000) : n ≤ sizeLine := Nat.le_trans h (by decide)
def spRNumberG : Sp := fun vs H Q _ => ∃ w : Str, vs = [.str w] ∧ w.length ≤ 1000000 ∧ ∀ H', Same H H' → Q (readN w) H'
def spRRightsG : Sp := fun vs H Q _ => ∃ w : Str, vs = [.str w] ∧ w.length ≤ 1000000 ∧ Q (readR w) H
def spRValueG : Sp := fun vs H Q _ => ∃ w k : Str, vs = [.str w, .str k] ∧ w.length ≤ 1000000 ∧ ∀ H', Same H H' → Q (readV w k) H'
section
variable {P : Program} {w : World} {K : PySem.W.Frag} {mg : Str → Option Value} {base : Heap}
theorem ok_rnumberG {f : Addr} {fd : FuncData} (F : Fun K "read_number" "read_number" s_read_number f fd) (T : Tx mg) (G : Gn mg) : FnOk P w K mg base CX0 1 f fd P_read_number spRNumberG := by
  have sc := sc_read_number
  refine F.ok sc (fun vs H Q E h => ?_) (fun cdv A outer s H vs Q E hr h => ?_)
  · obtain ⟨i, rfl, _⟩ := h
    rfl
  obtain ⟨w, rfl, hw, k⟩ := h
  have hu64 := hr.units
  refine ⟨_, ((pss_cons (ps_set (i := 1) sc.nd rfl (by first | exact Or.inl rfl | exact Or.inr rfl) (pe_m1 PySem.F.slot_str_removeprefix PySem.F.type_str_removeprefix mt_removeprefix (qv 0) pe_str))
  (pss_cons (ps_if (PW.pt (pw_or (pt_not (pt_chain oq_le oq_le pe_int (pe_callB (cq_len K) (by rfl) T.len (by decide +kernel) (pa_cons (qv 1) pa_nil)) (pe_globI G.MOST_FIGURES))) (pw_or1 (pt_not (pt_val (pe_callB (cr_all rfl) (by rfl) T.all (by decide +kernel) (pa_cons (pe_lc (own := [("sign", 3)]) (g := gName 3) (by rfl) sc.nd (pi_str (qv 1)) (blkOk_by (own := [("sign", 3)]) (N := N_read_number) (sc := defScope s_read_number) (by decide +kernel)) (fun _ _ _ _ _ => (pg_name (i := 3) sc.nd rfl (by first | exact Or.inl rfl | exact Or.inr rfl))) (fun _ _ _ _ _ => pts_nil) (fun _ _ _ _ _ => (pe_cmpR op_in_sign (qv 3) (pe_globS G.FIGURES) (by rfl)))) pa_nil)))))))
  (pss_one (ps_ret pe_non))
  pss_nil)
  (pss_cons (ps_set (i := 2) sc.nd rfl (by first | exact Or.inl rfl | exact Or.inr rfl) (pe_callTy call_int_str (by rfl) T.int (by decide +kernel) (pa_cons (qv 0) pa_nil)))
  (pss_one (ps_ret (pe_ifExp (pt_cmpR (oq_eq K hu64) (pe_callTy cq_str (by rfl) T.str (by decide +kernel) (pa_cons (qv 2) pa_nil)) (qv 0) (nomark _)) (qv 2) pe_non)))))) : PSs _ (_ :: _) _), ?_⟩
  refine ⟨⟨_, rfl⟩, _, _, rfl, rfl, small_le hw, ?_⟩
  have ty := tl_figs w
  have ky : ¬ shapeN w = true → readN w = .non := fun z => if_neg z
  have kn : ¬ shapeN w = true → Q .non H := fun z => by
    have := k H (Same.refl H)
    rw [ky z] at this
    exact this
  have hs : shapeN w = ((decide (1 ≤ (figL (tl w)).length) && decide ((figL (tl w)).length ≤ 5)) && (figL (tl w)).all figB) := rfl
  rw [← ty] at hs
  generalize Txt.removeprefix w "-" = y at ty hs
  rw [← len_tl] at hs
  have ly : y.length ≤ 1000000 := by
    rw [len_tl, ty]
    have : (figL (tl w)).length ≤ (tl w).length := by
      unfold figL
      split
      · rename_i r e
        rw [e, List.length_cons]; omega
      · exact Nat.le_refl _
    rw [len_tl] at hw
    omega
  refine ⟨small_le ly, _, rfl, ?_⟩
  by_cases c1 : ¬ 1 ≤ y.length
  · refine iteF' (decide_eq_false (by show ¬ (1 : Int) ≤ (y.length : Int); omega)) ?_
    have : ¬ shapeN w = true := by rw [hs, decide_eq_false c1]; simp
    first | exact ⟨_, rfl, iteT (iteT (kn this))⟩ | exact iteT (iteT (kn this)) | exact iteT (kn this) | exact ⟨_, rfl, iteT (kn this)⟩ | exact ⟨_, rfl, iteF (iteT (kn this))⟩ | exact iteF (iteT (kn this))
  have c1 := Decidable.not_not.mp c1
  refine iteT' (decide_eq_true (by show (1 : Int) ≤ (y.length : Int); omega)) ?_
  refine ⟨_, rfl, ?_⟩
  by_cases c2 : ¬ y.length ≤ 5
  · rw [decide_eq_false (show ¬ (y.length : Int) ≤ 5 by omega)]
    have : ¬ shapeN w = true := by rw [hs, decide_eq_false c2]; simp
    first | exact ⟨_, rfl, iteT (iteT (kn this))⟩ | exact iteT (iteT (kn this)) | exact iteT (kn this) | exact ⟨_, rfl, iteT (kn this)⟩ | exact ⟨_, rfl, iteF (iteT (kn this))⟩ | exact iteF (iteT (kn this))
  have c2 := Decidable.not_not.mp c2
  rw [decide_eq_true (show (y.length : Int) ≤ 5 by omega)]
  refine iteF ?_
  refine ⟨_, rfl, fun D hD => ?_⟩
  refine lc_by (n := y.cps.size) (fun j H2 => Same H H2 ∧ H2 D = some (.lst ((y.cps.toList.take j).map fun c => V.bl (figB c)))) ⟨same_new hD _, upd_same⟩ (fun i H2 hi _ => hi) (fun H2 _ => Nat.le_refl _) ?_ ?_
  · rintro j H2 x H2' hj ⟨s2, d2⟩ ⟨rfl, c, hx, rfl⟩
    refine ⟨rfl, ?_⟩
    refine ⟨c, _, rfl, rfl, ?_⟩
    have hx' : y.cps.toList[j]? = some c := by simpa using hx
    refine ⟨_, d2, ?_, fill_same hD s2 (Same.refl _), ?_⟩
    · rw [List.length_map]
      exact small_m (Nat.le_trans (List.length_take_le' _ _) ly)
    · rw [upd_same, List.take_succ, hx', List.map_append]
      rfl
  · rintro H2 ⟨s2, d2⟩
    have e0 : (y.cps.toList.take y.cps.size) = y.cps.toList := List.take_length
    rw [e0] at d2
    refine ⟨D, y.cps.toList.map figB, rfl, SqL.of (by rw [List.map_map]; exact d2), ?_⟩
    have ea : (y.cps.toList.map figB).all id = (tl y).all figB := by rw [List.all_map]; rfl
    rw [ea]
    by_cases c3 : ¬ (tl y).all figB = true
    · have : ¬ shapeN w = true := by rw [hs]; simp [c3]
      have kn2 : Q .non H2 := by
        have := k H2 s2
        rw [ky ‹_›] at this
        exact this
      rw [show (tl y).all figB = false by simpa using c3]
      first | exact ⟨_, rfl, iteT kn2⟩ | exact ⟨_, rfl, iteT (iteT kn2)⟩ | exact ⟨_, rfl, iteF (iteT kn2)⟩
    have c3 := Decidable.not_not.mp c3
    rw [c3]
    have sh : shapeN w = true := by rw [hs, decide_eq_true c1, decide_eq_true c2, c3]; rfl
    obtain ⟨n, en, sn, lw⟩ := shape_int sh
    refine ⟨_, rfl, iteF ?_⟩
    refine ⟨_, n, rfl, en, by omega, ?_⟩
    have k := k H2 s2
    unfold readN at k
    rw [if_pos sh, en] at k
    dsimp only at k
    refine ⟨log_small sn, rfl, _, rfl, ?_⟩
    rw [dstr]
    by_cases c4 : numS n = w
    · rw [if_pos c4] at k
      exact iteT' (decide_eq_true c4) k
    · rw [if_neg c4] at k
      exact iteF' (decide_eq_false c4) k
theorem ok_rrightsG {f : Addr} {fd : FuncData} (F : Fun K "read_rights" "read_rights" s_read_rights f fd) (G : Gn mg) : FnOk P w K mg base CX0 1 f fd P_read_rights spRRightsG := by
  have sc := sc_read_rights
  refine F.ok sc (fun vs H Q E h => ?_) (fun cdv A outer s H vs Q E hr h => ?_)
  · obtain ⟨i, rfl, _⟩ := h
    rfl
  obtain ⟨z, rfl, hz, k⟩ := h
  have hu64 := hr.units
  refine ⟨_, ((pss_cons (ps_if (pt_cmpR (oq_eq K hu64) (qv 0) (pe_globS G.NO_RIGHTS) (nomark _))
  (pss_one (ps_ret pe_str))
  pss_nil)
  (pss_one (ps_ret (pe_ifExp (pt_truth (qv 0) (by intro _; rfl)) (qv 0) pe_non)))) : PSs _ (_ :: _) _), ?_⟩
  refine ⟨rfl, _, rfl, ?_⟩
  unfold readR at k
  rw [dstr]
  refine ite2 (fun c => ?_) (fun c => ?_)
  · rw [if_pos (of_decide_eq_true c)] at k
    exact k
  · rw [if_neg (fun z => c (decide_eq_true z))] at k
    by_cases c2 : z = Str.ofString ""
    · rw [if_pos c2] at k
      refine ⟨false, ⟨small_le hz, ?_⟩, iteF k⟩
      rw [c2]
      decide +kernel
    · rw [if_neg c2] at k
      refine ⟨true, ⟨small_le hz, ?_⟩, iteT k⟩
      have : z.length ≠ 0 := fun q => c2 (ext_tl (by
        rw [len_tl] at q
        rw [List.length_eq_zero_iff.mp q]
        decide +kernel))
      symm
      simpa using this
theorem ok_rvalueG {f : Addr} {fd : FuncData} (F : Fun K "read_value" "read_value" s_read_value f fd) (D_read_rights : Df P w K mg base 1 "read_rights" P_read_rights [] spRRightsG) (D_read_number : Df P w K mg base 1 "read_number" P_read_number [] spRNumberG) :
    FnOk P w K mg base CX0 2 f fd P_read_value spRValueG := by
  have sc := sc_read_value
  refine F.ok sc (fun vs H Q E h => ?_) (fun cdv A outer s H vs Q E hr h => ?_)
  · obtain ⟨v, kd, rfl, _⟩ := h
    rfl
  obtain ⟨v, kd, rfl, hv, k⟩ := h
  have hu64 := hr.units
  refine ⟨_, ((pss_one (ps_ret (pe_ifExp (pt_cmpR (oq_eq K hu64) (qv 1) pe_str (nomark _)) (qcall D_read_rights (by first | exact hr | exact hr.mono (by omega)) (pa_cons (qv 0) pa_nil)) (qcall D_read_number (by first | exact hr | exact hr.mono (by omega)) (pa_cons (qv 0) pa_nil))))) : PSs _ [_] _), ?_⟩
  refine ⟨rfl, _, rfl, ?_⟩
  rw [dstr]
  unfold readV at k
  refine ite2 (fun c => ?_) (fun c => ?_)
  · have k := k H (Same.refl H)
    rw [if_pos (of_decide_eq_true c)] at k
    exact ⟨v, rfl, hv, k⟩
  · rw [if_neg (fun z => c (decide_eq_true z))] at k
    exact ⟨v, rfl, hv, k⟩
end
end Tm
set_option Elab.async false
set_option linter.all false
set_option maxRecDepth 100000
set_option maxHeartbeats 1000000
set_option pp.maxSteps 600
set_option pp.deepTerms false
namespace Tm
open PySem L2 TL
def spRRowG : Sp := fun vs H Q _ => ∃ l : Str, vs = [.str l] ∧ l.length ≤ 500000 ∧ ∀ (t : Addr) (H' : Hp), Same H H' → H' t = some (.tup (rowV l)) → Q (.ref t) H'
section
variable {P : Program} {w : World} {K : PySem.W.Frag} {mg : Str → Option Value} {base : Heap}
theorem ok_rrowG {f : Addr} {fd : FuncData} (F : Fun K "read_row" "read_row" s_read_row f fd) (T : Tx mg) (S : ShapesAt w K mg) (D_read_value : Df P w K mg base 2 "read_value" P_read_value [] spRValueG) : FnOk P w K mg base CX0 3 f fd P_read_row spRRowG := by
  have sc := sc_read_row
  obtain ⟨sa, kvs, D_SHAPES, M_SHAPES, hkv⟩ := S.ex
  refine F.ok sc (fun vs H Q E h => ?_) (fun cdv A outer s H vs Q E hr h => ?_)
  · obtain ⟨x, rfl, _⟩ := h
    rfl
  obtain ⟨l, rfl, hl, k⟩ := h
  have hu := hu_of hr
  have hu64 := hr.units
  refine ⟨_, ((pss_cons (ps_asg (pe_split (qv 0) pe_str) (pg_star rfl (pg_name (i := 2) sc.nd rfl (by first | exact Or.inl rfl | exact Or.inr rfl)) (pg_name (i := 3) sc.nd rfl (by first | exact Or.inl rfl | exact Or.inr rfl))))
  (pss_cons (ps_set (i := 1) sc.nd rfl (by first | exact Or.inl rfl | exact Or.inr rfl) (pk_get2 D_SHAPES M_SHAPES (qv 2) (pe_tup pa_nil) ⟨by rfl, by rfl, by rfl, by rfl⟩))
  (pss_cons (ps_if (pt_cmpR (oq_ne K hu64) (pe_callB (cq_len K) (by rfl) T.len (by decide +kernel) (pa_cons (qv 3) pa_nil)) (pe_callB (cq_len K) (by rfl) T.len (by decide +kernel) (pa_cons (qv 1) pa_nil)) (nomark _))
  (pss_one (ps_ret (pe_tup pa_nil)))
  pss_nil)
  (pss_one (ps_ret (pe_op (oq_add K) (pe_tup (pa_cons (qv 2) pa_nil)) (pe_callTy call_tuple_of (by rfl) T.tuple (by decide +kernel) (pa_cons (pe_lc (own := [("other", 4), ("kind", 5)]) (g := gTup K 2 (gCons (gName 4) (gCons (gName 5) gNil))) (by rfl) sc.nd ((pi_zip2 false true) (by rfl) T.zip (pa_cons (qv 3) (pa_cons (qv 1) pa_nil))) (blkOk_by (own := [("other", 4), ("kind", 5)]) (N := N_read_row) (sc := defScope s_read_row) (by decide +kernel)) (fun _ _ _ _ _ => (pg_tup (by rfl) (pgs_cons (pg_name (i := 4) sc.nd rfl (by first | exact Or.inl rfl | exact Or.inr rfl)) (pgs_cons (pg_name (i := 5) sc.nd rfl (by first | exact Or.inl rfl | exact Or.inr rfl)) pgs_nil)))) (fun _ _ _ _ _ => pts_nil) (fun _ _ _ _ _ => (qcall D_read_value (by first | exact hr | exact hr.mono (by omega)) (pa_cons (qv 4) (pa_cons (qv 5) pa_nil))))) pa_nil)))))))) : PSs _ (_ :: _) _), ?_⟩
  refine ⟨⟨_, rfl⟩, _, _, rfl, rfl, by decide +kernel, (by have : l.length + 2 ≤ 1000000 := by omega
                                                           exact small_le this), fun p hp => ?_⟩
  have es : (Txt.split l " ").map V.str = V.str (headW l) :: ((wordsOf l).tail).map V.str := by
    show (wordsOf l).map V.str = _
    rw [words_eq l]
    rfl
  rw [es]
  have hcl : ∀ o ∈ (wordsOf l).tail, o.length ≤ 1000000 := fun o ho => Nat.le_trans (cut_len blank_ne blank_k o (List.mem_of_mem_tail ho)) (by omega)
  have hol : (wordsOf l).tail.length ≤ 5000000 := by
    have := cut_many (w := l) blank_ne blank_k
    rw [List.length_tail]
    show (Txt.split l (Str.ofString " ")).length - 1 ≤ _
    omega
  have hrv : rowV l = if (wordsOf l).tail.length = (kindsW (headW l)).length then .str (headW l) :: ((wordsOf l).tail.zip (kindsW (headW l))).map (fun p => readV p.1 p.2) else [] := rfl
  have hks := kinds_small (headW l)
  have hkw : kindsW (headW l) = (shapesL.lookup (headW l)).getD [] := rfl
  generalize (wordsOf l).tail = ot at hcl hol hrv
  generalize headW l = z at hrv hks hkw
  generalize kindsW z = ks at hrv hks hkw
  refine ⟨p, _, _, rfl, SqL.of upd_same, fun q hq => ?_⟩
  have s1 := (same_new hp (.lst (V.str z :: ot.map V.str))).trans (same_new hq (.lst (ot.map V.str)))
  have hq1 : upd (upd H p (.lst (V.str z :: ot.map V.str))) q (.lst (ot.map V.str)) q = some (.lst (ot.map V.str)) := upd_same
  generalize upd (upd H p (.lst (V.str z :: ot.map V.str))) q (.lst (ot.map V.str)) = H1 at s1 hq1
  refine ⟨(by decide : 0 ≤ sizeLine), fun te hte => ?_⟩
  show getT kvs (.str z) (.ref te) _
  unfold getT
  dsimp only
  have s2 := s1.trans (same_new hte (.tup []))
  have hq2 := same_new hte (.tup []) _ _ hq1
  have het : upd H1 te (.tup []) te = some (.tup []) := upd_same
  generalize upd H1 te (.tup []) = H2 at s2 hq2 het
  obtain ⟨kt, ekt, hkt⟩ : ∃ kt, (valV kvs (.inr z)).getD (.ref te) = .ref kt ∧ ∀ H', Same H2 H' → SqT K H' kt (ks.map V.str) := by
    cases el : shapesL.lookup z with
    | none =>
      rw [look_none hkv el, hkw, el]
      exact ⟨te, rfl, fun H' s => SqT.of (s _ _ het)⟩
    | some ks2 =>
      obtain ⟨t, ht, hk⟩ := look_shapes hkv el
      rw [ht, hkw, el]
      exact ⟨t, rfl, fun H' _ => hk H'⟩
  rw [ekt]
  refine .inl ⟨_, SqL.of hq2, .inr (.inl ⟨_, hkt H2 (Same.refl _), rfl, _, rfl, ?_⟩)⟩
  by_cases c : ot.length = ks.length
  · rw [if_pos c] at hrv
    rw [List.length_map, List.length_map, c, decide_eq_true rfl]
    refine iteF ?_
    refine ⟨(by decide : 1 ≤ sizeLine), fun tw htw => ?_⟩
    have s3 := s2.trans (same_new htw (.tup [.str z]))
    have s23 := same_new htw (.tup [.str z])
    have hq3 := same_new htw (.tup [.str z]) _ _ hq2
    have tw3 : upd H2 tw (.tup [.str z]) tw = some (.tup [.str z]) := upd_same
    generalize upd H2 tw (.tup [.str z]) = H3 at s3 s23 hq3 tw3
    refine ⟨_, _, _, _, rfl, SqL.of hq3, hkt H3 s23, fun D hD => ?_⟩
    have la : (ot.map V.str).length = ks.length := by rw [List.length_map, c]
    have lk : (ks.map V.str).length = ks.length := by rw [List.length_map]
    have lz : (ot.zip ks).length = ks.length := by rw [List.length_zip, c, Nat.min_self]
    refine lc_by (n := ks.length) (fun i H4 => Same H3 H4 ∧ H4 D = some (.lst (((ot.zip ks).take i).map (fun p => readV p.1 p.2)))) ⟨same_new hD _, upd_same⟩ ?_ ?_ ?_ ?_
    · rintro i H4 hi ⟨s4, d4⟩
      exact ⟨_, _, _, _, SqL.of (s4 _ _ hq3), hkt H4 (s23.trans s4), List.getElem?_eq_getElem (by omega), List.getElem?_eq_getElem (by omega)⟩
    · rintro H4 ⟨s4, d4⟩
      exact ⟨_, _, SqL.of (s4 _ _ hq3), hkt H4 (s23.trans s4), by omega, by omega, .inl (by omega)⟩
    · rintro i H4 v H4' hi ⟨s4, d4⟩ ⟨T', y, kz, rfl, hT, rfl, hy, hz⟩
      have hy := hy _ (SqL.of (s4 _ _ hq3))
      have hz := hz _ (hkt H4 (s23.trans s4))
      rw [List.getElem?_map] at hy hz
      obtain ⟨o, eo, rfl⟩ := Option.map_eq_some_iff.mp hy
      obtain ⟨kd, ekd, rfl⟩ := Option.map_eq_some_iff.mp hz
      have st := same_new hT (.tup [.str o, .str kd])
      refine ⟨_, _, rfl, SqT.of upd_same, rfl, _, _, rfl, _, _, rfl, rfl, rfl, ?_⟩
      refine ⟨o, kd, rfl, hcl o (List.mem_of_getElem? eo), fun H5 s5 => ?_⟩
      refine ⟨_, s5 _ _ (st _ _ d4), ?_, fill_same hD (s4.trans st) s5, ?_⟩
      · rw [List.length_map]
        exact small1000 (Nat.le_trans (List.length_take_le' _ _) (by omega))
      · have ez : (ot.zip ks)[i]? = some (o, kd) := by
          rw [List.getElem?_zip_eq_some]
          exact ⟨eo, ekd⟩
        rw [upd_same, List.take_succ, ez, List.map_append]
        rfl
    · rintro H4 ⟨s4, d4⟩
      rw [← lz, List.take_length] at d4
      have lv : ((ot.zip ks).map (fun p => readV p.1 p.2)).length = ks.length := by rw [List.length_map, lz]
      generalize (ot.zip ks).map (fun p => readV p.1 p.2) = args at d4 lv hrv
      refine ⟨D, args, rfl, .inl ⟨SqL.of d4, fun ta hta => ?_⟩⟩
      have s5 := (s3.trans s4).trans (same_new hta (.tup args))
      have tw5 := same_new hta (.tup args) _ _ (s4 _ _ tw3)
      refine .inr ⟨_, _, _, _, rfl, rfl, SqT.of tw5, SqT.of upd_same, (by intro z; cases z), ?_, ?_, ?_⟩
      · exact Nat.le_trans (show 1 + args.length ≤ 5 by omega) (by decide)
      · intro z
        refine k _ _ s5 ?_
        rw [hrv]
        exact tw5.trans (by rw [z])
      · intro z tr htr
        refine k _ _ (s5.trans (same_new htr _)) ?_
        rw [hrv]
        exact upd_same
  · rw [if_neg c] at hrv
    rw [List.length_map, List.length_map, decide_eq_false (fun e => c (by have e := V.int.inj e; omega))]
    refine iteT ?_
    refine ⟨(by decide : 0 ≤ sizeLine), fun tr htr => ?_⟩
    refine k _ _ (s2.trans (same_new htr _)) ?_
    rw [hrv]
    exact upd_same
end
end Tm
set_option Elab.async false
set_option linter.all false
set_option maxRecDepth 100000
set_option maxHeartbeats 1000000
set_option pp.maxSteps 600
set_option pp.deepTerms false
namespace Tm
open PySem L2 TL
def RowsAt (H : Hp) (us : List V) (ls : List Str) : Prop := Paired (fun (v : V) (l : Str) => ∃ t, v = .ref t ∧ H t = some (.tup (rowV l))) us ls
def GoodL (ls : List Str) : Prop := ls.length ≤ 60 ∧ ∀ l ∈ ls, rowB ls.length (rowV l) = true
def BadL (ls : List Str) (i : Nat) : Prop := (∀ (j : Nat) (l : Str), j < i → ls[j]? = some l → rowB ls.length (rowV l) = true) ∧ i ≤ 60 ∧ ∃ l, ls[i]? = some l ∧ (i = 60 ∨ rowB ls.length (rowV l) = false)
theorem find_bad {α : Type} (p : α → Bool) : ∀ (l : List α), (∀ x ∈ l, p x = true) ∨ ∃ i, (∀ (j : Nat) (x : α), j < i → l[j]? = some x → p x = true) ∧ ∃ x, l[i]? = some x ∧ p x = false
  | [] => .inl fun x h => absurd h (List.not_mem_nil)
  | a :: l => by
    cases ha : p a with
    | false => exact .inr ⟨0, fun j x h => by omega, a, rfl, ha⟩
    | true =>
      rcases find_bad p l with h | ⟨i, h1, x, h2, h3⟩
      · refine .inl fun x hx => ?_
        rcases List.mem_cons.mp hx with rfl | hx
        · exact ha
        · exact h x hx
      · refine .inr ⟨i + 1, fun j y hj e => ?_, x, by rw [List.getElem?_cons_succ]; exact h2, h3⟩
        cases j with
        | zero =>
          rw [List.getElem?_cons_zero] at e
          cases e
          exact ha
        | succ j =>
          rw [List.getElem?_cons_succ] at e
          exact h1 j y (by omega) e
theorem good_or_bad (ls : List Str) : GoodL ls ∨ ∃ i, BadL ls i := by
  rcases find_bad (fun l => rowB ls.length (rowV l)) ls with h | ⟨i, h1, x, h2, h3⟩
  · by_cases c : ls.length ≤ 60
    · exact .inl ⟨c, h⟩
    · exact .inr ⟨60, fun j l _ e => h l (List.mem_of_getElem? e), Nat.le_refl _, ls[60]'(by omega), List.getElem?_eq_getElem (by omega), .inl rfl⟩
  · by_cases c : i ≤ 60
    · exact .inr ⟨i, h1, c, x, h2, .inr h3⟩
    · have hi := (List.getElem?_eq_some_iff.mp h2).1
      exact .inr ⟨60, fun j l hj e => h1 j l (by omega) e, Nat.le_refl _, ls[60]'(by omega), List.getElem?_eq_getElem (by omega), .inl rfl⟩
theorem rowV_typed (H : Hp) (l : Str) : ∀ x ∈ rowV l, Typed H x := fun x hx => by
  unfold rowV at hx
  split at hx
  · rcases List.mem_cons.mp hx with rfl | hx
    · trivial
    · obtain ⟨p, _, rfl⟩ := List.mem_map.mp hx
      rcases readV_cases p.1 p.2 with e | ⟨n, e, _⟩ | ⟨z, e, _⟩ <;> (rw [e]; trivial)
  · cases hx
theorem rowV_len (l : Str) : (rowV l).length ≤ 4 := by
  unfold rowV
  split
  · have := kinds_small (headW l)
    rw [List.length_cons, List.length_map, List.length_zip]
    omega
  · exact Nat.zero_le _
theorem rowV_od {H : Hp} {rows : Int} {t : Addr} {l : Str} (e : H t = some (.tup (rowV l))) : OdR H rows (.ref t) (rowB rows (rowV l)) := .inr ⟨t, _, rfl, e, Nat.le_trans (rowV_len l) (by decide), rowV_typed H l, rfl⟩
theorem RowsAt.same {H H' : Hp} {us : List V} {ls : List Str} (h : RowsAt H us ls) (s : Same H H') : RowsAt H' us ls := Paired.mapP h fun _ _ ⟨t, e, q⟩ => ⟨t, e, s _ _ q⟩
theorem RowsAt.bad {H : Hp} {us : List V} {ls : List Str} {i : Nat} (h : RowsAt H us ls) (b : BadL ls i) : BadAt H us i := by
  obtain ⟨b1, b2, l, b3, b4⟩ := b
  have hl : us.length = ls.length := Paired.length h
  refine ⟨fun j v hj e => ?_, b2, ?_⟩
  · have hj' : j < us.length := (List.getElem?_eq_some_iff.mp e).1
    obtain ⟨v', l', e1, e2, t, rfl, q⟩ := Paired.get2 h hj'
    rw [e] at e1
    cases e1
    have := rowV_od (rows := us.length) q
    rw [hl, b1 j l' hj e2] at this
    rw [hl]
    exact this
  · have hi : i < us.length := by
      have := (List.getElem?_eq_some_iff.mp b3).1
      omega
    obtain ⟨v', l', e1, e2, t, rfl, q⟩ := Paired.get2 h hi
    rw [b3] at e2
    cases e2
    refine ⟨_, e1, b4.imp id fun z => ?_⟩
    have := rowV_od (rows := us.length) q
    rw [hl, z] at this
    rw [hl]
    exact this
def spFirstO : Sp := fun vs H Q _ => ∃ (p : Addr) (us : List V), vs = [.ref p] ∧ H p = some (.tup us) ∧ us.length ≤ 60 ∧ (∀ v ∈ us, OdR H us.length v true) ∧ ∀ H', Same H H' → Q .non H'
def spReadG (CT : Addr) : Sp := fun vs H Q E => ∃ t : Str, vs = [.str t] ∧ t.length ≤ 500000 ∧ (∀ i, BadL (linesOf t) i → ∀ dx H', Same H H' → H' dx = some (.xd [(("line" : Str), .int i)]) → E (.ref CT) (some dx) H') ∧
  (GoodL (linesOf t) → ∀ (p : Addr) (us : List V) (H' : Hp), Same H H' → H' p = some (.tup us) → RowsAt H' us (linesOf t) → Q (.ref p) H')
section
variable {P : Program} {w : World} {K : PySem.W.Frag} {mg : Str → Option Value} {base : Heap}
theorem ok_first_wrongO {f : Addr} {fd : FuncData} (F : Fun K "first_wrong" "first_wrong" s_first_wrong f fd) (T : Tx mg) (G : Gc mg) (D_is_row : Df P w K mg base 4 "is_row" P_is_row [] spIsRowG) : FnOk P w K mg base CX0 5 f fd P_first_wrong spFirstO := by
  have sc := sc_first_wrong
  refine F.ok sc (fun vs H Q E h => ?_) (fun cdv A outer s H vs Q E hr h => ?_)
  · obtain ⟨p, us, rfl, _⟩ := h
    rfl
  obtain ⟨p, vs, rfl, hp, lv, good, k⟩ := h
  have hu := hu_of hr
  have hu64 := hr.units
  refine ⟨_, ((pss_cons (ps_for PassesOwn.never rfl ((pi_enum2 true) (by rfl) T.enumerate (pa_cons (qv 0) pa_nil)) (pg_tup (by rfl) (pgs_cons (pg_name (i := 1) sc.nd rfl (by first | exact Or.inl rfl | exact Or.inr rfl)) (pgs_cons (pg_name (i := 2) sc.nd rfl (by first | exact Or.inl rfl | exact Or.inr rfl)) pgs_nil)))
  (pss_one (ps_if (PW.pt (pw_or (pt_cmpR (oq_eq K hu64) (qv 1) (pe_globI G.MOST_ROWS) (nomark _)) (pw_or1 (pt_not (pt_val (qcall D_is_row (by first | exact hr | exact hr.mono (by omega)) (pa_cons (qv 2) (pa_cons (pe_callB (cq_len K) (by rfl) T.len (by decide +kernel) (pa_cons (qv 0) pa_nil)) pa_nil))))))))
  (pss_one (ps_ret (qv 1)))
  pss_nil)))
  (pss_one (ps_ret pe_non))) : PSs _ (_ :: _) _), ?_⟩
  refine ⟨_, _, rfl, SqT.of hp, ?_⟩
  refine for_by (n := vs.length) (fun i σ H2 => Same H H2 ∧ ∃ a b, σ = [some (.ref p), a, b]) ⟨Same.refl H, _, _, rfl⟩ ?_ ?_ ?_ ?_
  · rintro i σ H2 hi ⟨s2, _⟩
    exact ⟨_, vs[i], SqT.of (s2 _ _ hp), List.getElem?_eq_getElem hi⟩
  · rintro σ H2 ⟨s2, _⟩
    exact ⟨_, SqT.of (s2 _ _ hp), rfl⟩
  · rintro i σ H2 v H2' hi ⟨s2, a, b, rfl⟩ ⟨T', y, rfl, hT, rfl, hy⟩
    have hy := hy _ (SqT.of (s2 _ _ hp))
    have st := same_new hT (.tup [.int (i : Nat), y])
    refine ⟨_, _, rfl, SqT.of upd_same, rfl, _, _, rfl, _, _, rfl, rfl, ?_⟩
    have hp3 := st _ _ (s2 _ _ hp)
    refine ⟨rfl, _, rfl, ?_⟩
    have n60 : decide (V.int (i : Nat) = V.int 60) = false := decide_eq_false fun z => by
      have z := V.int.inj z
      omega
    refine iteF' n60 ?_
    refine .inr (.inl ⟨_, SqT.of hp3, ?_⟩)
    exact ⟨y, _, true, rfl, ((good y (List.mem_of_getElem? hy)).same s2).same st, fun H3 s3 => ⟨_, rfl, iteF ⟨(s2.trans st).trans s3, _, _, rfl⟩⟩⟩
  · rintro σ H2 ⟨s2, _⟩
    exact k H2 s2
theorem ok_readG {f CT : Addr} {fd : FuncData} (F : Fun K "read" "read" s_read f fd) (T : Tx mg) (R : RaiseK P w K mg base "BadText" "line" CT) (D_read_row : Df P w K mg base 3 "read_row" P_read_row [] spRRowG) (D_first_wrong : Df P w K mg base 5 "first_wrong" P_first_wrong [] (fun vs H Q E => spFirstO vs H Q E ∨ spFirstG vs H Q E)) : FnOk P w K mg base (CX1 P w) 6 f fd P_read (spReadG CT) := by
  have sc := sc_read
  refine F.okX sc (fun vs H Q E h => ?_) (fun cdv A outer s H vs Q E hr h => ?_)
  · obtain ⟨xs, rfl, _⟩ := h
    rfl
  obtain ⟨tx, rfl, lt, kx, k⟩ := h
  have hu := hu_of hr
  have hu64 := hr.units
  refine ⟨_, ((pss_cons (ps_set (i := 1) sc.nd rfl (by first | exact Or.inl rfl | exact Or.inr rfl) (pe_callTy call_tuple_of (by rfl) T.tuple (by decide +kernel) (pa_cons (pe_lc (own := [("line", 3)]) (g := gName 3) (by rfl) sc.nd (pi_list (pe_split (qv 0) pe_str)) (blkOk_by (own := [("line", 3)]) (N := N_read) (sc := defScope s_read) (by decide +kernel)) (fun _ _ _ _ _ => (pg_name (i := 3) sc.nd rfl (by first | exact Or.inl rfl | exact Or.inr rfl))) (fun _ _ _ _ _ => pts_nil) (fun _ _ _ _ _ => (qcall D_read_row (by first | exact hr | exact hr.mono (by omega)) (pa_cons (qv 3) pa_nil)))) pa_nil)))
  (pss_cons (ps_set (i := 2) sc.nd rfl (by first | exact Or.inl rfl | exact Or.inr rfl) (qcall D_first_wrong (by first | exact hr | exact hr.mono (by omega)) (pa_cons (qv 1) pa_nil)))
  (pss_cons (ps_if (pt_cmpR op_notN (qv 2) pe_non (nomark _))
  (pss_one (ps_raiseK R (by first | exact hr | exact hr.mono (by omega)) (by decide) (pa_cons (qv 2) pa_nil)))
  pss_nil)
  (pss_one (ps_ret (qv 1)))))) : PSs _ (_ :: _) _), ?_⟩
  refine ⟨⟨_, rfl⟩, _, _, rfl, rfl, by decide +kernel, (by have : tx.length + 2 ≤ 1000000 := by omega
                                                           exact small_le this), fun p hp => ?_⟩
  have e0 : Txt.split tx "\n" = linesOf tx := rfl
  rw [e0]
  have hm : (linesOf tx).length ≤ 1000000 := by
    have := cut_many (w := tx) line_ne line_k
    show (Txt.split tx (Str.ofString "\n")).length ≤ _
    omega
  have hl : ∀ l ∈ linesOf tx, l.length ≤ 500000 := fun l h => Nat.le_trans (cut_len line_ne line_k l h) (by omega)
  generalize linesOf tx = ls at hm hl kx k
  have s1 := same_new hp (.lst (ls.map V.str))
  have hp1 : upd H p (.lst (ls.map V.str)) p = _ := upd_same
  generalize upd H p (.lst (ls.map V.str)) = H1 at s1 hp1
  refine ⟨p, rfl, ⟨_, SqL.of hp1⟩, fun D hD => ?_⟩
  have la : (ls.map V.str).length = ls.length := by rw [List.length_map]
  refine lc_by (n := ls.length) (fun i H2 => Same H1 H2 ∧ ∃ vs, H2 D = some (.lst vs) ∧ RowsAt H2 vs (ls.take i)) ⟨same_new hD _, [], upd_same, .nil⟩ ?_ ?_ ?_ ?_
  · rintro i H2 hi ⟨s2, d2⟩
    exact ⟨_, _, SqL.of (s2 _ _ hp1), List.getElem?_eq_getElem (by omega)⟩
  · rintro H2 ⟨s2, d2⟩
    exact ⟨_, SqL.of (s2 _ _ hp1), by omega⟩
  · rintro i H2 v H2' hi ⟨s2, vs, d2, r2⟩ ⟨rfl, hv⟩
    have hv := hv _ (SqL.of (s2 _ _ hp1))
    rw [List.getElem?_map] at hv
    obtain ⟨l, el, rfl⟩ := Option.map_eq_some_iff.mp hv
    refine ⟨rfl, ?_⟩
    refine ⟨l, rfl, hl l (List.mem_of_getElem? el), fun t H3 s3 et => ?_⟩
    have d3 := s3 _ _ d2
    have lv := Paired.length r2
    have tp : Tups H3 (upd H3 D (.lst (vs ++ [.ref t]))) := Tups.upd (soft_lst d3)
    refine ⟨_, d3, ?_, fill_same hD s2 s3, vs ++ [.ref t], upd_same, ?_⟩
    · rw [lv]
      exact small_m (Nat.le_trans (List.length_take_le' _ _) hm)
    · rw [List.take_succ, el]
      refine pair_app (Paired.mapP r2 fun _ _ ⟨t, e, q⟩ => ⟨t, e, tp _ _ (s3 _ _ q)⟩) (.cons ⟨t, rfl, tp _ _ et⟩ .nil)
  · rintro H2 ⟨s2, vs, d2, r2⟩
    rw [List.take_length] at r2
    refine ⟨D, vs, rfl, .inl ⟨SqL.of d2, fun tp htp => ?_⟩⟩
    have st := same_new htp (.tup vs)
    have r3 := RowsAt.same r2 st
    have et : upd H2 tp (.tup vs) tp = some (.tup vs) := upd_same
    have lv : vs.length = ls.length := Paired.length r3
    generalize upd H2 tp (.tup vs) = H3 at st r3 et
    have s03 := (s1.trans s2).trans st
    rcases good_or_bad ls with g | ⟨i, b⟩
    · refine .inl ⟨tp, vs, rfl, et, by have := g.1; omega, fun v hv => ?_, fun H4 s4 => ?_⟩
      · obtain ⟨j, hj⟩ := List.getElem?_of_mem hv
        obtain ⟨v', l', e1, e2, t, rfl, q⟩ := Paired.get2 r3 (List.getElem?_eq_some_iff.mp hj).1
        rw [hj] at e1
        cases e1
        have := rowV_od (rows := vs.length) q
        rw [lv, g.2 l' (List.mem_of_getElem? e2)] at this
        rw [lv]
        exact this
      · refine ⟨rfl, _, rfl, iteF ?_⟩
        exact k g tp vs H4 (s03.trans s4) (s4 _ _ et) (RowsAt.same r3 s4)
    · refine .inr ⟨tp, vs, i, rfl, et, by omega, RowsAt.bad r3 b, fun H4 s4 => ?_⟩
      refine ⟨rfl, _, rfl, iteT ?_⟩
      have b60 := b.2.1
      exact ⟨i, rfl, by omega, by omega, fun dx hdx => kx i b dx _ ((s03.trans s4).trans (same_new hdx _)) upd_same⟩
end
end Tm
set_option Elab.async false
set_option linter.all false
set_option maxRecDepth 100000
set_option maxHeartbeats 1000000
namespace Tm
open PySem L2 TL
def rSlS : V → Option Int → Option Int → Hp → VK → Prop := fun v l u H Q => match v with
  | .str x => x.length ≤ sizeLine ∧ Q (.str (Txt.slice x l u)) H
  | _ => False
theorem part_of {v : Value} {o : Option Int} (h : IsPart v o) : ∃ p : Option (Int × Tok), p.map (·.1) = o ∧ partValue p = v := by
  cases h with
  | none => exact ⟨none, rfl, rfl⟩
  | int => exact ⟨some (_, _), rfl, rfl⟩
theorem sq_str {X : Cx} : SlR X rSlS := by
  intro pins s σ H x v vl vu lo hi sl Q I rx hs pl pu h
  unfold rSlS at h
  split at h
  · rename_i x
    obtain ⟨hx, q⟩ := h
    obtain ⟨t, rfl⟩ := rx
    obtain ⟨l, rfl, rfl⟩ := part_of pl
    obtain ⟨u, rfl, rfl⟩ := part_of pu
    refine ⟨"str", _, F.slot_str_getitem.lookup, typeIs_str _ _ _, ?_⟩
    obtain ⟨o, ho, hc, hd⟩ := hs
    refine wpAny_getItem_str_slice (l := l) (u := u) (st := none) ⟨o, ho, hc, ?_⟩ rfl ?_
    · rw [hd]
      cases l <;> cases u <;> rfl
    · refine post_val_or_str (c := _) ⟨Nat.le_trans (Txt.slice_le x _ _) hx, fun t' k => ?_⟩
      exact ⟨.str _, H, I.tok _, ⟨t', rfl⟩, q⟩
  · exact h.elim
end Tm
set_option Elab.async false
set_option linter.all false
set_option maxRecDepth 100000
set_option maxHeartbeats 1000000
namespace Tm
open PySem L2
inductive En where
  | end_
  | fault (why : Str) (row : Int)
def IsE (H : Hp) : Option En → V → Prop
  | none, v => v = .non
  | some .end_, v => ∃ p, v = .ref p ∧ H p = some (.tup [.str "end"])
  | some (.fault y r), v => ∃ p, v = .ref p ∧ H p = some (.tup [.str "fault", .str y, .int r])
theorem IsE.tups {H H' : Hp} (t : Tups H H') : ∀ {e : Option En} {v : V}, IsE H e v → IsE H' e v
  | none, _, h => h
  | some .end_, _, ⟨p, e, h⟩ => ⟨p, e, t _ _ h⟩
  | some (.fault _ _), _, ⟨p, e, h⟩ => ⟨p, e, t _ _ h⟩
structure Ms where
  cells : List Wd
  boxes : List Wd
  here : Int
  said : List Int
  steps : Int
  fin : Option En
  state : List (Int × Str)
  order : List Int
  hand : Int
  lazy : Bool
  lacked : Bool
structure Ad where
  m : Addr
  c : Addr
  b : Addr
  s : Addr
  st : Addr
  o : Addr
  t : Addr
def tabM (A : Ad) (e : V) (here steps hand : Int) (lazy lacked : Bool) : List (Key × V) :=
  [(.inr "cells", .ref A.c), (.inr "boxes", .ref A.b), (.inr "here", .int here), (.inr "said", .ref A.s), (.inr "steps", .int steps), (.inr "end", e), (.inr "state", .ref A.st), (.inr "order", .ref A.o), (.inr "hand", .int hand), (.inr "lazy", .bl lazy), (.inr "touched", .ref A.t), (.inr "lacked", .bl lacked)]
structure MAt (H : Hp) (A : Ad) (M : Ms) : Prop where
  m : ∃ e, H A.m = some (.dK (tabM A e M.here M.steps M.hand M.lazy M.lacked)) ∧ IsE H M.fin e
  c : ∃ vs, H A.c = some (.lst vs) ∧ Paired (IsW H) M.cells vs
  b : ∃ vs, H A.b = some (.lst vs) ∧ Paired (IsW H) M.boxes vs
  s : H A.s = some (.lst (M.said.map V.int))
  st : H A.st = some (.dK (M.state.map fun p => ((.inl p.1 : Key), V.str p.2)))
  o : H A.o = some (.lst (M.order.map V.int))
  t : ∃ ts, H A.t = some (.lst ts) ∧ ts.length ≤ 100000 + M.steps.toNat
  ap : [A.m, A.c, A.b, A.s, A.st, A.o, A.t].Nodup
theorem MAt.go {H H' : Hp} {A : Ad} {M : Ms} (h : MAt H A M) (t : Tups H H') (k : ∀ x ∈ [A.m, A.c, A.b, A.s, A.st, A.o, A.t], ∀ o, H x = some o → H' x = some o) : MAt H' A M := by
  obtain ⟨⟨e, m1, m2⟩, ⟨cv, c1, c2⟩, ⟨bv, b1, b2⟩, s1, st1, o1, ⟨ts, t1, t2⟩, ap⟩ := h
  exact ⟨⟨e, k _ (by simp) _ m1, m2.tups t⟩, ⟨cv, k _ (by simp) _ c1, Paired.mapP c2 fun _ _ => IsW.tups t⟩, ⟨bv, k _ (by simp) _ b1, Paired.mapP b2 fun _ _ => IsW.tups t⟩, k _ (by simp) _ s1, k _ (by simp) _ st1, k _ (by simp) _ o1, ⟨ts, k _ (by simp) _ t1, t2⟩, ap⟩
theorem MAt.same {H H' : Hp} {A : Ad} {M : Ms} (h : MAt H A M) (s : Same H H') : MAt H' A M := h.go (Same.tups s) fun _ _ _ e => s _ _ e
end Tm
set_option Elab.async false
set_option linter.all false
set_option maxRecDepth 100000
set_option maxHeartbeats 1000000
namespace Tm
open PySem L2
def datV : V → PyData
  | .int i => .int i
  | .str z => .str z
  | .bl b => .bool b
  | _ => .none
def Rw.dat (x : Rw) : PyData := .tuple (x.vals.map datV)
theorem str_ok_of {z : Str} (h1 : z.length ≤ 6) (h2 : ∀ c ∈ z.cps.toList, 97 ≤ c ∧ c ≤ 122) : PyData.strOk z = true := by
  show z.cps.all _ = true
  rw [← Array.all_toList]
  exact List.all_eq_true.mpr fun c hc => decide_eq_true (by have := h2 c hc; omega)
theorem lay_all : ∀ {vs : List V}, (∀ v ∈ vs, valOk v) → PyData.canLayAll0 (vs.map datV) = true
  | [], _ => by simp [PyData.canLayAll0]
  | v :: vs, h => by
    have h2 := lay_all fun u hu => h u (List.mem_cons_of_mem (a := u) v hu)
    rw [List.map_cons, PyData.canLayAll0, h2, Bool.and_true]
    rcases h v (by simp) with ⟨i, rfl, _⟩ | ⟨z, rfl, h1, h2⟩
    · simp [datV, PyData.canLay0]
    · simp only [datV, PyData.canLay0]
      exact str_ok_of h1 h2
theorem dep_all : ∀ {vs : List V}, (∀ v ∈ vs, valOk v) → PyData.depthAll (vs.map datV) ≤ 1
  | [], _ => by simp [PyData.depthAll]
  | v :: vs, h => by
    have h2 := dep_all fun u hu => h u (List.mem_cons_of_mem (a := u) v hu)
    rw [List.map_cons, PyData.depthAll]
    rcases h v (by simp) with ⟨i, rfl, _⟩ | ⟨z, rfl, _⟩
    · simp [datV, PyData.depth]
      omega
    · simp [datV, PyData.depth]
      omega
theorem shaped_row {rows : Int} (hr : rows ≤ 1000) (x : Rw) (h : ROk rows x) : SeqAt.shaped x.dat = true := by
  have v := vals_ok hr x h
  unfold SeqAt.shaped Rw.dat
  refine Bool.and_eq_true_iff.mpr ⟨?_, decide_eq_true ?_⟩
  · simp only [PyData.canLay0]
    exact lay_all v
  · have := dep_all v
    simp only [PyData.depth]
    omega
theorem dp_all {K : PySem.W.Frag} {H : Hp} : ∀ {vs : List V}, (∀ v ∈ vs, valOk v) → DpAll K H vs (vs.map datV)
  | [], _ => .nil
  | v :: vs, h => by
    refine .cons ?_ (dp_all fun u hu => h u (List.mem_cons_of_mem _ hu))
    rcases h v (by simp) with ⟨i, rfl, _⟩ | ⟨z, rfl, _⟩
    · exact .int i
    · exact .str z
theorem dq_all {H : Hp} {n : Nat} : ∀ {vs : List V}, (∀ v ∈ vs, valOk v) → Paired (Dq H n) vs (vs.map datV)
  | [], _ => .nil
  | v :: vs, h => by
    refine .cons ?_ (dq_all fun u hu => h u (List.mem_cons_of_mem _ hu))
    rcases h v (by simp) with ⟨i, rfl, _⟩ | ⟨z, rfl, _⟩
    · cases n with
      | zero => exact rfl
      | succ n => exact .inl rfl
    · cases n with
      | zero => exact rfl
      | succ n => exact .inl rfl
theorem IsR.dp {K : PySem.W.Frag} {H : Hp} {x : Rw} {v : V} {rows : Int} (h : IsR H x v) (hr : rows ≤ 1000) (ok : ROk rows x) : Dp K H v x.dat := by
  obtain ⟨p, rfl, hp⟩ := h
  exact .tup (SqT.of hp) (dp_all (vals_ok hr x ok))
theorem IsR.dq {H : Hp} {x : Rw} {v : V} {rows : Int} {n : Nat} (h : IsR H x v) (hr : rows ≤ 1000) (ok : ROk rows x) : Dq H (n + 1) v x.dat := by
  obtain ⟨p, rfl, hp⟩ := h
  exact .inr (.inl ⟨p, _, _, rfl, rfl, hp, Nat.le_trans (vals_len x) (by decide), dq_all (vals_ok hr x ok)⟩)
end Tm
set_option Elab.async false
set_option linter.all false
set_option maxRecDepth 100000
set_option maxHeartbeats 1000000
namespace Tm
open PySem L2
theorem paired_add {α β : Type} {R : α → β → Prop} : ∀ {xs : List α} {ys : List β} {x : α} {y : β}, Paired R xs ys → R x y → Paired R (xs ++ [x]) (ys ++ [y])
  | _, _, _, _, .nil, h => .cons h .nil
  | _, _, _, _, .cons r t, h => .cons r (paired_add t h)
theorem paired_set {α β : Type} {R : α → β → Prop} {x : α} {y : β} (h : R x y) : ∀ {xs : List α} {ys : List β} (i : Nat), Paired R xs ys → Paired R (xs.set i x) (ys.set i y)
  | _, _, _, .nil => .nil
  | _, _, 0, .cons _ t => .cons h t
  | _, _, i + 1, .cons r t => .cons r (paired_set h i t)
structure Wds (rows most : Int) (H : Hp) (c : Addr) (ws : List Wd) : Prop where
  ex : ∃ vs, H c = some (.lst vs) ∧ Paired (IsW H) ws vs
  ok : ∀ x ∈ ws, WOk rows most x
theorem Wds.nil {rows most : Int} {H : Hp} {c : Addr} (h : H c = some (.lst [])) : Wds rows most H c [] := ⟨⟨[], h, .nil⟩, fun x hx => absurd hx (by simp)⟩
theorem Wds.go {rows most : Int} {H H' : Hp} {c : Addr} {ws : List Wd} (h : Wds rows most H c ws) (t : Tups H H') (e : ∀ o, H c = some o → H' c = some o) : Wds rows most H' c ws := by
  obtain ⟨⟨vs, h1, h2⟩, ok⟩ := h
  exact ⟨⟨vs, e _ h1, Paired.mapP h2 fun _ _ => IsW.tups t⟩, ok⟩
theorem Wds.on {K : PySem.W.Frag} {R : Addr} {rows most : Int} {H H' : Hp} {c : Addr} {ws : List Wd} (h : Wds rows most H c ws) (r : RowAt K H R) (o : On K R H H') (n : c ≠ R) : Wds rows most H' c ws := h.go (On.tups r o) fun _ e => o.at e n
theorem Wds.same {rows most : Int} {H H' : Hp} {c : Addr} {ws : List Wd} (h : Wds rows most H c ws) (s : Same H H') : Wds rows most H' c ws := h.go (Same.tups s) fun _ e => s _ _ e
theorem Wds.lst {rows most : Int} {H : Hp} {c : Addr} {ws : List Wd} (h : Wds rows most H c ws) : ∃ vs, H c = some (.lst vs) ∧ vs.length = ws.length := by
  obtain ⟨⟨vs, h1, h2⟩, _⟩ := h
  exact ⟨vs, h1, (Paired.length h2).symm⟩
theorem Wds.soft {rows most : Int} {H : Hp} {c : Addr} {ws : List Wd} (h : Wds rows most H c ws) : Soft (H c) := by
  obtain ⟨vs, h1, _⟩ := h.lst
  exact soft_lst h1
theorem Wds.add {rows most : Int} {H : Hp} {c : Addr} {ws : List Wd} {vs : List V} {v : V} {x : Wd} (h : Wds rows most H c ws) (e : H c = some (.lst vs)) (i : IsW H x v) (ok : WOk rows most x) : Wds rows most (upd H c (.lst (vs ++ [v]))) c (ws ++ [x]) := by
  obtain ⟨⟨vs', h1, h2⟩, hok⟩ := h
  rw [e] at h1
  cases h1
  have t : Tups H (upd H c (.lst (vs ++ [v]))) := Tups.upd (soft_lst e)
  refine ⟨⟨_, upd_same, paired_add (Paired.mapP h2 fun _ _ => IsW.tups t) (i.tups t)⟩, fun y hy => ?_⟩
  rcases List.mem_append.mp hy with z | z
  · exact hok y z
  · cases List.mem_singleton.mp z
    exact ok
theorem Wds.set {rows most : Int} {H : Hp} {c : Addr} {ws : List Wd} {vs : List V} {v : V} {x : Wd} (h : Wds rows most H c ws) (e : H c = some (.lst vs)) (j : Nat) (i : IsW H x v) (ok : WOk rows most x) : Wds rows most (upd H c (.lst (vs.set j v))) c (ws.set j x) := by
  obtain ⟨⟨vs', h1, h2⟩, hok⟩ := h
  rw [e] at h1
  cases h1
  have t : Tups H (upd H c (.lst (vs.set j v))) := Tups.upd (soft_lst e)
  refine ⟨⟨_, upd_same, paired_set (i.tups t) j (Paired.mapP h2 fun _ _ => IsW.tups t)⟩, fun y hy => ?_⟩
  rcases List.mem_or_eq_of_mem_set hy with z | z
  · exact hok y z
  · subst z
    exact ok
theorem Wds.at {rows most : Int} {H : Hp} {c : Addr} {ws : List Wd} (h : Wds rows most H c ws) {j : Int} (h0 : 0 ≤ j) (h1 : j < ws.length) : ∃ vs v x, H c = some (.lst vs) ∧ atI vs j = some v ∧ ws[j.toNat]? = some x ∧ IsW H x v ∧ WOk rows most x := by
  obtain ⟨⟨vs, e, r⟩, hok⟩ := h
  obtain ⟨x, v, g1, g2, g3⟩ := Paired.get2 (i := j.toNat) r (by omega)
  refine ⟨vs, v, x, e, ?_, g1, g3, hok x (List.mem_of_getElem? g1)⟩
  have q : j = ((j.toNat : Nat) : Int) := by omega
  rw [q]
  exact atI_nat g2
structure Gro (T : Addr) (pos : Pos) (qual : Str) (H H' : Hp) : Prop where
  keep : ∀ b o, b ≠ T → H b = some o → H' b = some o
  tb : TblOk pos qual H' T
theorem _root_.L2.TblOk.tbl {pos : Pos} {qual : Str} {H : Hp} {T : Addr} (h : TblOk pos qual H T) : ∃ ps, H T = some (.tbl ps) := by
  rcases h with h | ⟨c, h, _⟩
  · exact ⟨_, h⟩
  · exact ⟨_, h⟩
theorem _root_.L2.TblOk.same {pos : Pos} {qual : Str} {H H' : Hp} {T : Addr} (h : TblOk pos qual H T) (s : Same H H') : TblOk pos qual H' T := by
  rcases h with h | ⟨c, h, hc⟩
  · exact .inl (s _ _ h)
  · exact .inr ⟨c, s _ _ h, s _ _ hc⟩
theorem _root_.L2.TblOk.on {K : PySem.W.Frag} {R : Addr} {pos : Pos} {qual : Str} {H H' : Hp} {T : Addr} (h : TblOk pos qual H T) (r : RowAt K H R) (o : On K R H H') : TblOk pos qual H' T := by
  obtain ⟨xs, e⟩ := r.lst
  have n : ∀ {b : Addr} {u : HO}, H b = some u → (∀ xs, u ≠ .lst xs) → b ≠ R := fun {b u} q z y => by
    rw [y, e] at q
    exact z _ (Option.some.inj q).symm
  rcases h with h | ⟨c, h, hc⟩
  · exact .inl (o.at h (n h fun _ z => by cases z))
  · exact .inr ⟨c, o.at h (n h fun _ z => by cases z), o.at hc (n hc fun _ z => by cases z)⟩
theorem _root_.L2.TblOk.ne {pos : Pos} {qual : Str} {H : Hp} {T b : Addr} {o : HO} (h : TblOk pos qual H T) (e : H b = some o) (z : ∀ ps, o ≠ .tbl ps) : b ≠ T := fun q => by
  obtain ⟨ps, t⟩ := h.tbl
  rw [q, t] at e
  exact z _ (Option.some.inj e).symm
theorem Gro.tups {T : Addr} {pos : Pos} {qual : Str} {H H' : Hp} (g : Gro T pos qual H H') (t : TblOk pos qual H T) : Tups H H' := fun p xs e => g.keep _ _ (t.ne e fun _ z => by cases z) e
theorem Gro.row {K : PySem.W.Frag} {R T : Addr} {pos : Pos} {qual : Str} {H H' : Hp} (g : Gro T pos qual H H') (t : TblOk pos qual H T) (r : RowAt K H R) : RowAt K H' R := by
  obtain ⟨a, ns, i, s, c, hR, f, hl, hi⟩ := r
  refine ⟨a, ns, i, s, c, g.keep _ _ (t.ne hR fun _ z => by cases z) hR, ?_, hl, hi⟩
  rcases f with ⟨ob, h⟩ | h
  · exact .inl ⟨ob, g.keep _ _ (t.ne h fun _ z => by cases z) h⟩
  · exact .inr h
theorem Gro.lst {T : Addr} {pos : Pos} {qual : Str} {H H' : Hp} (g : Gro T pos qual H H') (t : TblOk pos qual H T) {l : Addr} {xs : List V} (h : H l = some (.lst xs)) : H' l = some (.lst xs) := g.keep _ _ (t.ne h fun _ z => by cases z) h
theorem Gro.then {T : Addr} {pos : Pos} {qual : Str} {H H1 H2 : Hp} (g : Gro T pos qual H H1) (s : Same H1 H2) : Gro T pos qual H H2 := ⟨fun b o n e => s _ _ (g.keep b o n e), g.tb.same s⟩
end Tm
set_option Elab.async false
set_option linter.all false
set_option maxRecDepth 100000
set_option maxHeartbeats 1000000
namespace L2
open PySem PySem.Spec PyProof.Rows
section
variable {X : Cx}
end
end L2
namespace L2
open PySem PySem.Spec PyProof.Rows
section
variable {X : Cx}
end
end L2
set_option Elab.async false
set_option linter.all false
set_option maxRecDepth 100000
set_option maxHeartbeats 1000000
namespace L2
open PySem PySem.Spec PyProof.Rows
section
variable {X : Cx}
def upL (lo : Int) (n : Nat) : List Int := (List.range n).map fun (k : Nat) => lo + (k : Int)
end
end L2
set_option Elab.async false
set_option linter.all false
set_option maxRecDepth 100000
set_option maxHeartbeats 1000000
namespace Tm
open PySem L2
def keyBy (g : Bool) : Wd → Option Wd
  | .num _ => none
  | .key b e a r => some (.key b e a r)
  | .gate _ w => if g = true then keyBy g w else none
def isKey : Wd → Bool
  | .key _ _ _ _ => true
  | _ => false
theorem keyBy_key {g : Bool} : ∀ {w k : Wd}, keyBy g w = some k → isKey k = true
  | .num _, _, h => by cases h
  | .key _ _ _ _, _, h => by cases h; rfl
  | .gate _ w, k, h => by
    unfold keyBy at h
    split at h
    · exact keyBy_key h
    · cases h
theorem keyBy_ok {g : Bool} {rows most : Int} : ∀ {w k : Wd}, keyBy g w = some k → WOk rows most w → WOk rows most k
  | .num _, _, h, _ => by cases h
  | .key _ _ _ _, _, h, o => by cases h; exact o
  | .gate _ w, k, h, o => by
    unfold keyBy at h
    split at h
    · exact keyBy_ok h o.2.2.2
    · cases h
def shown : Wd → List Int
  | .key b e _ r => if (hasR r 103 && hasR r 104) = true then upL b (e - b).toNat else []
  | _ => []
inductive Rch (g : Bool) (cs bs : List Wd) : Wd → Prop
  | box {w k : Wd} : w ∈ bs → keyBy g w = some k → Rch g cs bs k
  | cell {k w k' : Wd} {c : Int} : Rch g cs bs k → c ∈ shown k → cs[c.toNat]? = some w → keyBy g w = some k' → Rch g cs bs k'
theorem Rch.ok {g : Bool} {cs bs : List Wd} {rows most : Int} (hc : ∀ x ∈ cs, WOk rows most x) (hb : ∀ x ∈ bs, WOk rows most x) {k : Wd} (h : Rch g cs bs k) : WOk rows most k ∧ isKey k = true := by
  induction h with
  | box h1 h2 => exact ⟨keyBy_ok h2 (hb _ h1), keyBy_key h2⟩
  | cell _ _ h3 h4 _ => exact ⟨keyBy_ok h4 (hc _ (List.mem_of_getElem? h3)), keyBy_key h4⟩
theorem Rch.closed {g : Bool} {cs bs : List Wd} {P : Wd → Prop} (h0 : ∀ w k, w ∈ bs → keyBy g w = some k → P k) (h1 : ∀ k c w k', P k → c ∈ shown k → cs[c.toNat]? = some w → keyBy g w = some k' → P k') {k : Wd} (h : Rch g cs bs k) : P k := by
  induction h with
  | box a b => exact h0 _ _ a b
  | cell _ b c d ih => exact h1 _ _ _ _ ih b c d
end Tm
set_option Elab.async false
set_option linter.all false
set_option maxRecDepth 100000
set_option maxHeartbeats 1000000
namespace L2
open PySem PySem.Spec PyProof.Rows
section
variable {X : Cx}
end
end L2
namespace Tm
open PySem L2
def wdD : Wd → PyData
  | .num n => .int n
  | .key b e a r => .tuple [.str "key", .int b, .int e, .int a, .str r]
  | .gate g w => .tuple [.str "gate", .int g, wdD w]
theorem IsW.dp {K : PySem.W.Frag} {H : Hp} : ∀ {w : Wd} {v : V}, IsW H w v → Dp K H v (wdD w)
  | .num n, _, h => by
    have h : _ = V.int n := h
    subst h
    exact .int n
  | .key b e a r, _, ⟨p, h, q⟩ => by
    subst h
    exact .tup (SqT.of q) (.cons (.str _) (.cons (.int _) (.cons (.int _) (.cons (.int _) (.cons (.str _) .nil)))))
  | .gate g w, _, ⟨p, u, h, q, i⟩ => by
    subst h
    exact .tup (SqT.of q) (.cons (.str _) (.cons (.int _) (.cons i.dp .nil)))
theorem dp_words {K : PySem.W.Frag} {H : Hp} : ∀ {ws : List Wd} {vs : List V}, Paired (IsW H) ws vs → DpAll K H vs (ws.map wdD)
  | _, _, .nil => .nil
  | _, _, .cons h t => .cons h.dp (dp_words t)
end Tm
set_option Elab.async false
set_option linter.all false
set_option maxRecDepth 100000
set_option maxHeartbeats 1000000
namespace Tm
open PySem L2
theorem nodup_le {α : Type} : ∀ {F l : List α}, F.Nodup → (∀ x ∈ F, x ∈ l) → F.length ≤ l.length
  | [], _, _, _ => Nat.zero_le _
  | x :: F, l, h, hs => by
    obtain ⟨a, b, e⟩ := List.append_of_mem (hs x (by simp))
    subst e
    obtain ⟨h1, h2⟩ := List.nodup_cons.mp h
    have ih := nodup_le (l := a ++ b) h2 fun y hy => by
      have q := hs y (by simp [hy])
      have ne : y ≠ x := fun z => h1 (z ▸ hy)
      rcases List.mem_append.mp q with q | q
      · exact List.mem_append_left _ q
      · rcases List.mem_cons.mp q with q | q
        · exact absurd q ne
        · exact List.mem_append_right _ q
    rw [List.length_append] at ih ⊢
    rw [List.length_cons, List.length_cons]
    omega
theorem Rch.from {g : Bool} {cs bs : List Wd} {k : Wd} (h : Rch g cs bs k) : k ∈ (bs ++ cs).filterMap (keyBy g) := by
  cases h with
  | box a b => exact List.mem_filterMap.mpr ⟨_, List.mem_append_left _ a, b⟩
  | cell _ _ c d => exact List.mem_filterMap.mpr ⟨_, List.mem_append_right _ (List.mem_of_getElem? c), d⟩
def Pend (g : Bool) (F L : List Wd) (k : Wd) : Prop := k ∈ F ∨ ∃ u ∈ L, keyBy g u = some k
structure Lv (g : Bool) (cs bs F L : List Wd) : Prop where
  rch : ∀ k ∈ F, Rch g cs bs k
  nd : F.Nodup
  lft : ∀ w ∈ L, ∀ k, keyBy g w = some k → Rch g cs bs k
  box : ∀ w k, w ∈ bs → keyBy g w = some k → Pend g F L k
  cel : ∀ k1 ∈ F, ∀ c ∈ shown k1, ∀ w k, cs[c.toNat]? = some w → keyBy g w = some k → Pend g F L k
section
variable {g : Bool} {cs bs F L : List Wd}
theorem Lv.start : Lv g cs bs [] bs := ⟨fun k h => absurd h (by simp), List.nodup_nil, fun w h k e => .box h e, fun w k h e => .inr ⟨w, h, e⟩, fun k h => absurd h (by simp)⟩
theorem Lv.done (h : Lv g cs bs F []) (k : Wd) : k ∈ F ↔ Rch g cs bs k := by
  have nl : ∀ k, Pend g F [] k → k ∈ F := fun k z => by
    rcases z with z | ⟨u, z, _⟩
    · exact z
    · cases z
  exact ⟨h.rch k, fun r => Rch.closed (P := fun x => x ∈ F) (fun w k a b => nl k (h.box w k a b)) (fun k c w k' a b c' d => nl k' (h.cel k a c b w k' c' d)) r⟩
theorem Lv.few (h : Lv g cs bs F L) (hc : cs.length ≤ 64) (hb : bs.length = 8) : F.length ≤ 72 := by
  have q := nodup_le h.nd fun x hx => (h.rch x hx).from
  have := List.length_filterMap_le (keyBy g) (bs ++ cs)
  rw [List.length_append] at this
  omega
theorem Lv.step {F' L' : List Wd} (h : Lv g cs bs F L) (mono : ∀ k, Pend g F L k → Pend g F' L' k) (rch : ∀ k ∈ F', Rch g cs bs k) (nd : F'.Nodup) (lft : ∀ w ∈ L', ∀ k, keyBy g w = some k → Rch g cs bs k)
    (new : ∀ k ∈ F', k ∈ F ∨ ∀ c ∈ shown k, ∀ w k', cs[c.toNat]? = some w → keyBy g w = some k' → Pend g F' L' k') : Lv g cs bs F' L' :=
  ⟨rch, nd, lft, fun w k a b => mono k (h.box w k a b), fun k1 a c b w k d e => by
    rcases new k1 a with z | z
    · exact mono k (h.cel k1 z c b w k d e)
    · exact z c b w k d e⟩
theorem Lv.drop {w : Wd} (h : Lv g cs bs F (L ++ [w])) (e : ∀ k, keyBy g w = some k → k ∈ F) : Lv g cs bs F L :=
  h.step (fun k z => by
    rcases z with z | ⟨u, hu, eu⟩
    · exact .inl z
    · rcases List.mem_append.mp hu with z | z
      · exact .inr ⟨u, z, eu⟩
      · rw [List.mem_singleton.mp z] at eu
        exact .inl (e k eu)) h.rch h.nd (fun w hw => h.lft w (List.mem_append_left _ hw)) fun k hk => .inl hk
theorem Lv.gate {a : Int} {y : Wd} (h : Lv true cs bs F (L ++ [.gate a y])) : Lv true cs bs F (L ++ [y]) := by
  have e : keyBy true (.gate a y) = keyBy true y := rfl
  refine h.step (fun k z => ?_) h.rch h.nd (fun w hw k ek => ?_) fun k hk => .inl hk
  · rcases z with z | ⟨u, hu, eu⟩
    · exact .inl z
    · rcases List.mem_append.mp hu with z | z
      · exact .inr ⟨u, List.mem_append_left _ z, eu⟩
      · rw [List.mem_singleton.mp z, e] at eu
        exact .inr ⟨y, List.mem_append_right _ (by simp), eu⟩
  · rcases List.mem_append.mp hw with z | z
    · exact h.lft w (List.mem_append_left _ z) k ek
    · rw [List.mem_singleton.mp z] at ek
      exact h.lft _ (List.mem_append_right _ (by simp)) k (e.trans ek)
theorem Lv.key {k0 : Wd} {X : List Wd} (h : Lv g cs bs F (L ++ [k0])) (hk : keyBy g k0 = some k0) (hn : k0 ∉ F) (hx : ∀ w, w ∈ X ↔ ∃ c ∈ shown k0, cs[c.toNat]? = some w) : Lv g cs bs (F ++ [k0]) (L ++ X) := by
  have r0 : Rch g cs bs k0 := h.lft k0 (List.mem_append_right _ (by simp)) k0 hk
  refine h.step (fun k z => ?_) (fun k z => ?_) ?_ (fun w hw k ek => ?_) fun k z => ?_
  · rcases z with z | ⟨u, hu, eu⟩
    · exact .inl (List.mem_append_left _ z)
    · rcases List.mem_append.mp hu with z | z
      · exact .inr ⟨u, List.mem_append_left _ z, eu⟩
      · rw [List.mem_singleton.mp z, hk] at eu
        cases eu
        exact .inl (List.mem_append_right _ (by simp))
  · rcases List.mem_append.mp z with z | z
    · exact h.rch k z
    · rw [List.mem_singleton.mp z]
      exact r0
  · exact List.nodup_append.mpr ⟨h.nd, by simp, fun x hx y hy z => hn (by rw [← List.mem_singleton.mp hy, ← z]; exact hx)⟩
  · rcases List.mem_append.mp hw with z | z
    · exact h.lft w (List.mem_append_left _ z) k ek
    · obtain ⟨c, hc, ew⟩ := (hx w).mp z
      exact .cell r0 hc ew ek
  · rcases List.mem_append.mp z with z | z
    · exact .inl z
    · rw [List.mem_singleton.mp z]
      exact .inr fun c hc w k' ew ek => .inr ⟨w, List.mem_append_right _ ((hx w).mpr ⟨c, hc, ew⟩), ek⟩
end
def wordsD (ws : List Wd) : PyData := .list (ws.map wdD)
theorem Wds.dp {K : PySem.W.Frag} {rows most : Int} {H : Hp} {c : Addr} {ws : List Wd} (h : Wds rows most H c ws) : Dp K H (.ref c) (wordsD ws) := by
  obtain ⟨vs, e, r⟩ := h.ex
  exact .lst (SqL.of e) (dp_words r)
end Tm
set_option Elab.async false
set_option linter.all false
set_option maxRecDepth 100000
set_option maxHeartbeats 1000000
namespace Tm
open PySem L2
def stOf (st : List (Int × Str)) (b : Int) : Option Str := (st.find? fun p => decide (p.1 = b)).map (·.2)
structure MOk (rows : Int) (M : Ms) : Prop where
  c64 : M.cells.length = 64
  b8 : M.boxes.length = 8
  okc : ∀ x ∈ M.cells, WOk rows 64 x
  okb : ∀ x ∈ M.boxes, WOk rows 64 x
  st0 : 0 ≤ M.steps
  said : (M.said.length : Int) ≤ M.steps
  keys : ∃ n : Nat, n ≤ 12 ∧ M.state.map (·.1) = (List.range n).map fun (i : Nat) => 64 - 4 * (n : Int) + 4 * (i : Int)
  ord : ∀ b, b ∈ M.order ↔ stOf M.state b = some (Str.ofString "lent")
  ordN : M.order.Nodup
theorem MOk.here {rows h : Int} {M : Ms} (o : MOk rows M) : MOk rows { M with here := h } := ⟨o.c64, o.b8, o.okc, o.okb, o.st0, o.said, o.keys, o.ord, o.ordN⟩
end Tm
namespace Tm
open PySem L2
end Tm
set_option Elab.async false
set_option linter.all false
set_option maxRecDepth 100000
set_option maxHeartbeats 1000000
namespace Tm
open PySem L2
def Ad.list (A : Ad) : List Addr := [A.m, A.c, A.b, A.s, A.st, A.o, A.t]
structure Mgo (A A' : Ad) (H H' : Hp) : Prop where
  up : ∀ b o, H b = some o → b ∉ A.list → H' b = some o
  new : ∀ x ∈ A'.list, x ∈ A.list ∨ H x = none
  m : A'.m = A.m
theorem Mgo.refl (A : Ad) (H : Hp) : Mgo A A H H := ⟨fun _ _ e _ => e, fun _ h => .inl h, rfl⟩
theorem Mgo.same {A : Ad} {H H' : Hp} (s : Same H H') : Mgo A A H H' := ⟨fun _ _ e _ => s _ _ e, fun _ h => .inl h, rfl⟩
theorem Mgo.trans {A A' A'' : Ad} {H H1 H2 : Hp} (a : Mgo A A' H H1) (b : Mgo A' A'' H1 H2) : Mgo A A'' H H2 := by
  have k : ∀ x o, H x = some o → x ∉ A.list → x ∉ A'.list := fun x o e n z => by
    rcases a.new x z with y | y
    · exact n y
    · rw [e] at y; cases y
  refine ⟨fun x o e n => b.up x o (a.up x o e n) (k x o e n), fun x hx => ?_, b.m.trans a.m⟩
  rcases b.new x hx with z | z
  · exact a.new x z
  · by_cases y : x ∈ A.list
    · exact .inl y
    · right
      cases e : H x with
      | none => rfl
      | some o => rw [a.up x o e y] at z; cases z
theorem MAt.soft {H : Hp} {A : Ad} {M : Ms} (h : MAt H A M) : ∀ b ∈ A.list, Soft (H b) := by
  obtain ⟨⟨e, m1, m2⟩, ⟨cv, c1, c2⟩, ⟨bv, b1, b2⟩, s1, st1, o1, ⟨ts, t1, t2⟩, ap⟩ := h
  intro b hb
  simp only [Ad.list, List.mem_cons, List.not_mem_nil, or_false] at hb
  rcases hb with rfl | rfl | rfl | rfl | rfl | rfl | rfl
  · rw [m1]; trivial
  · rw [c1]; trivial
  · rw [b1]; trivial
  · rw [s1]; trivial
  · rw [st1]; trivial
  · rw [o1]; trivial
  · rw [t1]; trivial
theorem MAt.there {H : Hp} {A : Ad} {M : Ms} (h : MAt H A M) : ∀ b ∈ A.list, ∃ o, H b = some o := by
  obtain ⟨⟨e, m1, m2⟩, ⟨cv, c1, c2⟩, ⟨bv, b1, b2⟩, s1, st1, o1, ⟨ts, t1, t2⟩, ap⟩ := h
  intro b hb
  simp only [Ad.list, List.mem_cons, List.not_mem_nil, or_false] at hb
  rcases hb with rfl | rfl | rfl | rfl | rfl | rfl | rfl
  · exact ⟨_, m1⟩
  · exact ⟨_, c1⟩
  · exact ⟨_, b1⟩
  · exact ⟨_, s1⟩
  · exact ⟨_, st1⟩
  · exact ⟨_, o1⟩
  · exact ⟨_, t1⟩
theorem MAt.fresh {H : Hp} {A : Ad} {M : Ms} (h : MAt H A M) {p : Addr} (e : H p = none) : p ∉ A.list := fun z => by
  obtain ⟨o, q⟩ := h.there p z
  rw [e] at q
  cases q
theorem Mgo.tups {A A' : Ad} {H H' : Hp} {M : Ms} (g : Mgo A A' H H') (h : MAt H A M) : Tups H H' := fun p xs e => g.up p _ e fun z => by
  have := h.soft p z
  rw [e] at this
  exact this
theorem Mgo.row {K : PySem.W.Frag} {R : Addr} {A A' : Ad} {H H' : Hp} {M : Ms} (g : Mgo A A' H H') (h : MAt H A M) (r : RowAt K H R) (n : R ∉ A.list) : RowAt K H' R :=
  r.up (S := A.list) (fun b o e z => g.up b o e z) n h.soft
theorem Mgo.put {A : Ad} {H : Hp} {p : Addr} (o : HO) (h : p ∈ A.list) : Mgo A A H (upd H p o) := ⟨fun b u e n => by
  rw [upd_ne]
  · exact e
  · rintro rfl
    exact n h, fun _ h => .inl h, rfl⟩
section
variable {H : Hp} {A : Ad} {M : Ms}
theorem MAt.nes (h : MAt H A M) : (A.m ≠ A.c ∧ A.m ≠ A.b ∧ A.m ≠ A.s ∧ A.m ≠ A.st ∧ A.m ≠ A.o ∧ A.m ≠ A.t) ∧ (A.c ≠ A.b ∧ A.c ≠ A.s ∧ A.c ≠ A.st ∧ A.c ≠ A.o ∧ A.c ≠ A.t) ∧ (A.b ≠ A.s ∧ A.b ≠ A.st ∧ A.b ≠ A.o ∧ A.b ≠ A.t) ∧ (A.s ≠ A.st ∧ A.s ≠ A.o ∧ A.s ≠ A.t) ∧ (A.st ≠ A.o ∧ A.st ≠ A.t) ∧ A.o ≠ A.t := by
  have q := h.ap
  simp only [List.nodup_cons, List.mem_cons, List.not_mem_nil, or_false, not_or, List.nodup_nil, and_true] at q
  obtain ⟨q1, q2, q3, q4, q5, q6, _⟩ := q
  exact ⟨q1, q2, q3, q4, q5, q6⟩
theorem MAt.tab (h : MAt H A M) (e : V) (here steps hand : Int) (lazy lacked : Bool) (fin : Option En) (he : IsE H fin e) (hs : M.steps.toNat ≤ steps.toNat) : MAt (upd H A.m (.dK (tabM A e here steps hand lazy lacked))) A { M with here := here, steps := steps, hand := hand, lazy := lazy, lacked := lacked, fin := fin } := by
  have t : Tups H (upd H A.m (.dK (tabM A e here steps hand lazy lacked))) := Tups.upd (h.soft _ (by simp [Ad.list]))
  obtain ⟨⟨n1, n2, n3, n4, n5, n6⟩, _⟩ := h.nes
  obtain ⟨⟨e', m1, m2⟩, ⟨cv, c1, c2⟩, ⟨bv, b1, b2⟩, s1, st1, o1, ⟨ts, t1, t2⟩, ap⟩ := h
  exact ⟨⟨e, upd_same, he.tups t⟩, ⟨cv, by rw [upd_ne n1.symm]; exact c1, Paired.mapP c2 fun _ _ => IsW.tups t⟩, ⟨bv, by rw [upd_ne n2.symm]; exact b1, Paired.mapP b2 fun _ _ => IsW.tups t⟩, by rw [upd_ne n3.symm]; exact s1, by rw [upd_ne n4.symm]; exact st1, by rw [upd_ne n5.symm]; exact o1, ⟨ts, by rw [upd_ne n6.symm]; exact t1, by show ts.length ≤ 100000 + steps.toNat; omega⟩, ap⟩
end
end Tm
namespace Tm
open PySem L2
section
variable (A : Ad) (e : V) (h s hd : Int) (lz lk : Bool)
end
end Tm
set_option Elab.async false
set_option linter.all false
set_option maxRecDepth 100000
set_option maxHeartbeats 1000000
namespace L2
open PySem PySem.Spec PyProof.Rows
section
variable {X : Cx}
end
end L2
set_option Elab.async false
set_option linter.all false
set_option maxRecDepth 100000
set_option maxHeartbeats 1000000
namespace L2
open PySem PySem.Spec PyProof.Rows
section
variable {X : Cx} {tg : Expr}
end
end L2
set_option Elab.async false
set_option linter.all false
set_option maxRecDepth 100000
set_option maxHeartbeats 1000000
namespace L2
open PySem PySem.Spec PyProof.Rows
end L2
namespace Tm
open PySem L2
def numsD (ns : List Int) : PyData := .list (ns.map PyData.int)
theorem nums_lay : ∀ ns : List Int, PyData.canLayAll0 (ns.map PyData.int) = true
  | [] => by simp [PyData.canLayAll0]
  | n :: ns => by simp [PyData.canLayAll0, PyData.canLay0, nums_lay ns]
theorem nums_dep : ∀ ns : List Int, PyData.depthAll (ns.map PyData.int) ≤ 1
  | [] => by simp [PyData.depthAll]
  | n :: ns => by
    have := nums_dep ns
    simp [PyData.depthAll, PyData.depth]
    omega
theorem nums_can (ns : List Int) : (numsD ns).canLay0 = true := by
  unfold numsD
  simp only [PyData.canLay0]
  exact nums_lay ns
theorem nums_shaped (ns : List Int) : SeqAt.shaped (numsD ns) = true := by
  unfold SeqAt.shaped
  refine Bool.and_eq_true_iff.mpr ⟨nums_can ns, decide_eq_true ?_⟩
  have := nums_dep ns
  unfold numsD
  simp only [PyData.depth]
  omega
theorem nums_dp {K : PySem.W.Frag} {H : Hp} {l : Addr} {ns : List Int} (h : SqL K H l (ns.map V.int)) : Dp K H (.ref l) (numsD ns) := by
  refine .lst h ?_
  clear h
  induction ns with
  | nil => exact .nil
  | cons n ns ih => exact .cons (.int n) ih
theorem nums_eq_nil (ns : List Int) : PyData.eqv (numsD ns) (.list []) = ns.isEmpty := by
  cases ns with
  | nil => simp [numsD, PyData.eqv, PyData.eqvAll]
  | cons x ns => simp [numsD, PyData.eqv, PyData.eqvAll]
end Tm
set_option Elab.async false
set_option linter.all false
set_option maxRecDepth 100000
set_option maxHeartbeats 1000000
namespace Tm
open PySem L2 TL
def strsD (zs : List Str) : PyData := .list (zs.map PyData.str)
def TOk (w : Str) : Prop := ∀ c ∈ tl w, c < 1114112
theorem TOk.str {w : Str} (h : TOk w) : PyData.strOk w = true := by
  unfold PyData.strOk
  rw [Array.all_eq_true']
  exact fun c hc => decide_eq_true (h c (Array.mem_toList_iff.mpr hc))
theorem strs_shaped (zs : List Str) (h : ∀ z ∈ zs, TOk z) : SeqAt.shaped (strsD zs) = true := by
  have a : ∀ zs : List Str, (∀ z ∈ zs, TOk z) → PyData.canLayAll0 (zs.map PyData.str) = true := by
    intro zs
    induction zs with
    | nil => intro _; simp [PyData.canLayAll0]
    | cons n ns ih =>
      intro h
      have h1 := (h n (List.mem_cons_self ..)).str
      have h2 := ih fun z hz => h z (List.mem_cons_of_mem _ hz)
      simp [PyData.canLayAll0, PyData.canLay0, h2, h1]
  have b : ∀ zs : List Str, PyData.depthAll (zs.map PyData.str) ≤ 1 := by
    intro zs
    induction zs with
    | nil => simp [PyData.depthAll]
    | cons n ns ih => simp [PyData.depthAll, PyData.depth]; omega
  unfold SeqAt.shaped strsD
  refine Bool.and_eq_true_iff.mpr ⟨?_, decide_eq_true ?_⟩
  · simp only [PyData.canLay0]
    exact a zs h
  · have := b zs
    simp only [PyData.depth]
    omega
theorem spl_mem {S : List Nat} : ∀ {k : Nat} {acc l p : List Nat} {c : Nat}, p ∈ spl S k acc l → c ∈ p → c ∈ acc ∨ c ∈ l
  | k, acc, [], p, c, h, hc => by
    rw [spl_nil] at h
    rw [List.mem_singleton.mp h] at hc
    exact .inl hc
  | 0, acc, a :: r, p, c, h, hc => by
    have h : p ∈ (if pre S (a :: r) = true then acc :: spl S (S.length - 1) [] r else spl S 0 (acc ++ [a]) r) := h
    split at h
    · rcases List.mem_cons.mp h with h | h
      · rw [h] at hc
        exact .inl hc
      · rcases spl_mem h hc with q | q
        · cases q
        · exact .inr (List.mem_cons_of_mem _ q)
    · rcases spl_mem h hc with q | q
      · rcases List.mem_append.mp q with q | q
        · exact .inl q
        · rw [List.mem_singleton.mp q]
          exact .inr (List.mem_cons_self ..)
      · exact .inr (List.mem_cons_of_mem _ q)
  | k + 1, acc, a :: r, p, c, h, hc => by
    rcases spl_mem (show p ∈ spl S k acc r from h) hc with q | q
    · exact .inl q
    · exact .inr (List.mem_cons_of_mem _ q)
theorem TOk.cut {w y : Str} (h : TOk w) (hy : tl y ≠ []) (hk : y.cps.all (· < 256) = true) : ∀ p ∈ Txt.split w y, TOk p := fun p hp c hc => by
  have e := cut_spl (w := w) hy hk
  have hp : tl p ∈ spl (tl y) 0 [] (tl w) := by rw [← e]; exact List.mem_map_of_mem hp
  rcases spl_mem hp hc with q | q
  · cases q
  · exact h c q
theorem TOk.app {x y : Str} (hx : TOk x) (hy : TOk y) : TOk (x ++ y) := fun c hc => by
  rw [tl_append] at hc
  exact (List.mem_append.mp hc).elim (hx c) (hy c)
theorem TOk.join {y : Str} {ps : List Str} (hy : TOk y) (hp : ∀ p ∈ ps, TOk p) : TOk (Txt.join y ps) := fun c hc => by
  rw [join_eq, tl_join] at hc
  rcases mem_joinL hc with q | ⟨p, q1, q2⟩
  · exact hy c q
  · obtain ⟨z, hz, rfl⟩ := List.mem_map.mp q1
    exact hp z hz c q2
theorem TOk.slice {w : Str} (h : TOk w) (l u : Option Int) : TOk (Txt.slice w l u) := fun c hc => by
  unfold Txt.slice at hc
  split at hc
  · exact h c hc
  · have hc : c ∈ (List.filterMap (fun i => w.cps[i]?) (Builtin.Str.strSliceIndices l u 1 w.length)) := hc
    obtain ⟨i, _, e⟩ := List.mem_filterMap.mp hc
    exact h c (Array.mem_toList_iff.mpr (Array.mem_of_getElem? e))
theorem strs_dp {K : PySem.W.Frag} {H : Hp} {l : Addr} {zs : List Str} (h : SqL K H l (zs.map V.str)) : Dp K H (.ref l) (strsD zs) := by
  refine .lst h ?_
  clear h
  induction zs with
  | nil => exact .nil
  | cons n ns ih => exact .cons (.str n) ih
theorem strs_eq_nil (zs : List Str) : PyData.eqv (strsD zs) (.list []) = zs.isEmpty := by
  cases zs with
  | nil => simp [strsD, PyData.eqv, PyData.eqvAll]
  | cons x ns => simp [strsD, PyData.eqv, PyData.eqvAll]
theorem slice_from {w : Str} {a : Nat} (h : a ≤ w.length) : tl (Txt.slice w (some (a : Int)) none) = (tl w).drop a := by
  have e : Builtin.Str.strSliceIndices (some (a : Int)) none 1 w.length = Builtin.Str.strSliceIndices (some (a : Int)) (some (w.length : Int)) 1 w.length := by
    unfold Builtin.Str.strSliceIndices
    have h1 : ¬ ((w.length : Int) < 0) := by omega
    simp only [h1, if_false, show ((1 : Int) > 0) = True from by simp, if_true]
    congr 1
    omega
  unfold Txt.slice
  rw [e]
  have p := StrLaws.sliced_plain w h (Nat.le_refl w.length)
  split
  · rename_i q
    rw [StrLaws.strSliceIndices_plain h (Nat.le_refl _), List.length_map, List.length_range] at q
    have : w.length - a = w.length := by simpa using q
    by_cases z : a = 0
    · rw [z]; rfl
    · have hz : w.length = 0 := by omega
      omega
  · show (List.filterMap _ _) = _
    rw [p]
    show ((tl w).drop a).take _ = _
    exact List.take_of_length_le (by rw [List.length_drop, ← len_tl]; exact Nat.le_refl _)
theorem slice_to {w : Str} {b : Nat} (h : b ≤ w.length) : tl (Txt.slice w none (some (b : Int))) = (tl w).take b := by
  have e : Builtin.Str.strSliceIndices none (some (b : Int)) 1 w.length = Builtin.Str.strSliceIndices (some ((0 : Nat) : Int)) (some (b : Int)) 1 w.length := by
    unfold Builtin.Str.strSliceIndices
    simp
    congr 1
  unfold Txt.slice
  rw [e]
  have p := StrLaws.sliced_plain w (Nat.zero_le b) h
  split
  · rename_i q
    rw [StrLaws.strSliceIndices_plain (Nat.zero_le b) h, List.length_map, List.length_range] at q
    have : b - 0 = w.length := by simpa using q
    rw [show b = (tl w).length by rw [← len_tl]; omega, List.take_length]
  · show (List.filterMap _ _) = _
    rw [p]
    rfl
theorem head_iff (w : Str) : Txt.slice w none (some 1) = Str.ofString "-" ↔ ∃ r, tl w = 45 :: r := by
  have ey : tl (Str.ofString "-") = [45] := by decide +kernel
  by_cases h : 1 ≤ w.length
  · have e := slice_to (w := w) (b := 1) h
    constructor
    · intro q
      have q2 : (tl w).take 1 = [45] := by rw [← e, ← ey, ← q]; rfl
      cases hw : tl w with
      | nil => rw [hw] at q2; cases q2
      | cons a r =>
        rw [hw] at q2
        have : a = 45 := by simpa using q2
        exact ⟨r, by rw [this]⟩
    · rintro ⟨r, hr⟩
      refine ext_tl ?_
      rw [ey]
      refine e.trans ?_
      rw [hr]
      rfl
  · have h0 : w.length = 0 := by omega
    have e0 : tl w = [] := List.length_eq_zero_iff.mp (by rw [← len_tl]; exact h0)
    constructor
    · intro q
      have := Txt.slice_le w none (some 1)
      rw [q, h0] at this
      exact absurd this (by decide +kernel)
    · rintro ⟨r, hr⟩
      rw [e0] at hr
      cases hr
theorem size_eq {w : Str} {b : Bool} (h : b = true ↔ ∃ r, tl w = 45 :: r) : tl (Txt.slice w (some (if b = true then 1 else 0)) none) = figL (tl w) := by
  cases b with
  | true =>
    obtain ⟨r, hr⟩ := h.mp rfl
    have hl : 1 ≤ w.length := by rw [len_tl, hr, List.length_cons]; omega
    have := slice_from (w := w) (a := 1) hl
    refine this.trans ?_
    rw [hr]
    rfl
  | false =>
    have := slice_from (w := w) (a := 0) (Nat.zero_le _)
    refine this.trans ?_
    unfold figL
    split
    · rename_i r e
      exact absurd (h.mpr ⟨r, e⟩) (by decide)
    · rfl
end Tm
set_option Elab.async false
set_option linter.all false
set_option maxRecDepth 100000
set_option maxHeartbeats 1000000
namespace Tm
open PySem L2 TL
def lenW (zs : List Str) : Nat := (zs.map (·.length)).sum + zs.length
theorem lenW_app (a b : List Str) : lenW (a ++ b) = lenW a + lenW b := by
  unfold lenW
  rw [List.map_append, List.sum_append, List.length_append]
  omega
theorem lenW_cons (a : Str) (b : List Str) : lenW (a :: b) = a.length + 1 + lenW b := by
  unfold lenW
  rw [List.map_cons, List.sum_cons, List.length_cons]
  omega
theorem lenW_take (zs : List Str) (n : Nat) : lenW (zs.take n) ≤ lenW zs := by
  have := lenW_app (zs.take n) (zs.drop n)
  rw [List.take_append_drop] at this
  omega
theorem lenW_drop (zs : List Str) (n : Nat) : lenW (zs.drop n) ≤ lenW zs := by
  have := lenW_app (zs.take n) (zs.drop n)
  rw [List.take_append_drop] at this
  omega
theorem lenW_mem {zs : List Str} {z : Str} (h : z ∈ zs) : z.length + 1 ≤ lenW zs := by
  induction zs with
  | nil => cases h
  | cons a r ih =>
    rw [lenW_cons]
    rcases List.mem_cons.mp h with rfl | h
    · omega
    · have := ih h
      omega
theorem spl_wt (S : List Nat) : ∀ (k : Nat) (acc l : List Nat), ((spl S k acc l).map List.length).sum + (spl S k acc l).length ≤ acc.length + l.length + 1
  | k, acc, [] => by rw [spl_nil]; simp
  | 0, acc, c :: r => by
    show ((if pre S (c :: r) = true then acc :: spl S (S.length - 1) [] r else spl S 0 (acc ++ [c]) r).map List.length).sum + (if pre S (c :: r) = true then acc :: spl S (S.length - 1) [] r else spl S 0 (acc ++ [c]) r).length ≤ _
    rw [List.length_cons]
    split
    · have := spl_wt S (S.length - 1) [] r
      rw [List.map_cons, List.sum_cons, List.length_cons]
      rw [List.length_nil] at this
      omega
    · have := spl_wt S 0 (acc ++ [c]) r
      rw [List.length_append, List.length_cons, List.length_nil] at this
      omega
  | k + 1, acc, c :: r => by
    have := spl_wt S k acc r
    rw [List.length_cons]
    show ((spl S k acc r).map List.length).sum + (spl S k acc r).length ≤ _
    omega
theorem cut_wt {w y : Str} (hy : tl y ≠ []) (hk : y.cps.all (· < 256) = true) : lenW (Txt.split w y) ≤ w.length + 1 := by
  have e := cut_spl (w := w) hy hk
  have := spl_wt (tl y) 0 [] (tl w)
  rw [← e, List.length_map, List.map_map, List.length_nil] at this
  have q : (Txt.split w y).map (List.length ∘ tl) = (Txt.split w y).map (·.length) := List.map_congr_left fun p _ => (len_tl p).symm
  rw [q] at this
  unfold lenW
  rw [len_tl w]
  omega
theorem joinL_wt {S : List Nat} (hS : S.length ≤ 1) : ∀ ps : List (List Nat), (joinL S ps).length ≤ (ps.map List.length).sum + ps.length
  | [] => Nat.zero_le _
  | [p] => by simp [joinL]
  | p :: q :: r => by
    have := joinL_wt hS (q :: r)
    show (p ++ (S ++ joinL S (q :: r))).length ≤ _
    rw [List.length_append, List.length_append, List.map_cons, List.sum_cons, List.length_cons]
    omega
theorem join_wt {y : Str} (hy : y.length ≤ 1) (ps : List Str) : (Txt.join y ps).length ≤ lenW ps := by
  rw [len_tl, join_eq, tl_join]
  have := joinL_wt (S := tl y) (by rw [← len_tl]; exact hy) (ps.map tl)
  rw [List.map_map, List.length_map] at this
  have q : ps.map (List.length ∘ tl) = ps.map (·.length) := List.map_congr_left fun p _ => (len_tl p).symm
  rw [q] at this
  exact this
def LOk (m : Nat) (zs : List Str) : Prop := lenW zs ≤ m ∧ ∀ z ∈ zs, TOk z
theorem LOk.app {m n : Nat} {a b : List Str} (h : LOk m a) (h' : LOk n b) : LOk (m + n) (a ++ b) := ⟨by rw [lenW_app]; have := h.1; have := h'.1; omega, fun z hz => (List.mem_append.mp hz).elim (h.2 z) (h'.2 z)⟩
theorem LOk.take {m : Nat} {a : List Str} (h : LOk m a) (n : Nat) : LOk m (a.take n) := ⟨Nat.le_trans (lenW_take a n) h.1, fun z hz => h.2 z (List.mem_of_mem_take hz)⟩
theorem LOk.drop {m : Nat} {a : List Str} (h : LOk m a) (n : Nat) : LOk m (a.drop n) := ⟨Nat.le_trans (lenW_drop a n) h.1, fun z hz => h.2 z (List.mem_of_mem_drop hz)⟩
theorem LOk.one {m : Nat} {z : Str} (h : TOk z) (l : z.length ≤ m) : LOk (m + 1) [z] := ⟨by rw [lenW_cons]; show z.length + 1 + 0 ≤ _; omega, fun y hy => by rw [List.mem_singleton.mp hy]; exact h⟩
theorem LOk.two {m : Nat} {z : Str} (h : TOk z) (l : z.length ≤ m) : LOk (2 * m + 2) [z, z] := ⟨by rw [lenW_cons, lenW_cons]; show z.length + 1 + (z.length + 1 + 0) ≤ _; omega, fun y hy => by rcases List.mem_cons.mp hy with e | e; exact e ▸ h; rw [List.mem_singleton.mp e]; exact h⟩
theorem LOk.nil {m : Nat} : LOk m [] := ⟨Nat.zero_le _, fun z hz => by cases hz⟩
theorem LOk.cut {w y : Str} (h : TOk w) (hy : tl y ≠ []) (hk : y.cps.all (· < 256) = true) : LOk (w.length + 1) (Txt.split w y) := ⟨cut_wt hy hk, TOk.cut h hy hk⟩
theorem LOk.join {m : Nat} {y : Str} {ps : List Str} (h : LOk m ps) (hy : TOk y) (h1 : y.length ≤ 1) : TOk (Txt.join y ps) ∧ (Txt.join y ps).length ≤ m := ⟨TOk.join hy h.2, Nat.le_trans (join_wt h1 ps) h.1⟩
theorem LOk.sum {m : Nat} {y : Str} {ps : List Str} (h : LOk m ps) (h1 : y.length ≤ 1) : (ps.map (·.length)).sum + ps.length * y.length ≤ m := by
  have a := h.1
  unfold lenW at a
  have : ps.length * y.length ≤ ps.length * 1 := Nat.mul_le_mul_left _ h1
  omega
theorem LOk.many {m : Nat} {ps : List Str} (h : LOk m ps) : ps.length ≤ m := by
  have a := h.1
  unfold lenW at a
  omega
end Tm
set_option Elab.async false
set_option linter.all false
set_option maxRecDepth 100000
set_option maxHeartbeats 1000000
namespace Tm
open PySem L2 TL
theorem tok_lit {s : Str} (h : (s.cps.toList.all fun c => decide (c < 1114112)) = true) : TOk s := fun c hc => of_decide_eq_true (List.all_eq_true.mp h c hc)
theorem tok_prog {xs : List Rw} (ok : POk xs) : TOk (wProg xs) ∧ (wProg xs).length ≤ 1740 := by
  obtain ⟨n1, n60, hx⟩ := ok
  have hr : (xs.length : Int) ≤ 1000 := by omega
  constructor
  · unfold wProg
    refine TOk.join (tok_lit (by decide +kernel)) fun p hp => ?_
    obtain ⟨x, mx, rfl⟩ := List.mem_map.mp hp
    unfold wRow
    refine TOk.join (tok_lit (by decide +kernel)) fun q hq => ?_
    obtain ⟨v, mv, rfl⟩ := List.mem_map.mp hq
    intro c hc
    have := (wv_ok (vals_ok hr x (hx x mx) v mv)).2.2 c hc
    omega
  · rw [len_tl]
    have := prog_len hr xs hx
    have : xs.length * 29 ≤ 60 * 29 := Nat.mul_le_mul (by omega) (Nat.le_refl _)
    omega
def s11 : List Str := ["", "\n", "end", "end\n", "go 1", "go 0", "say 8", "put 0 10000", "put 0 -10000", "put 0 00", "end 0"]
def s8 : List Str := ["Add 0 0 0", "add 0 0", " end", "end ", "if 0 1\nend", "gate 0 1 1", "gate 0 1 2", "fewer 0 1 -"]
def s6 : List Str := ["fewer 0 1 ", "fewer 0 1 -g", "get 0 1 -64", "set 0 -63 1", "put 0 -0", "put 0 -"]
def jn (n : Nat) (z : Str) : Str := Txt.join "\n" (List.replicate n z)
theorem rep_strs (z : Str) : ∀ n : Nat, (List.replicate n [V.str z]).flatten = (List.replicate n z).map V.str
  | 0 => rfl
  | n + 1 => by
    rw [List.replicate_succ, List.replicate_succ, List.flatten_cons, List.map_cons, rep_strs z n]
    rfl
def okT (z : Str) : Bool := decide (z.length ≤ 1000) && z.cps.toList.all fun c => decide (c < 1114112)
theorem okT.of {z : Str} (h : okT z = true) : TOk z ∧ z.length ≤ 1000 := ⟨tok_lit (Bool.and_eq_true_iff.mp h).2, of_decide_eq_true (Bool.and_eq_true_iff.mp h).1⟩
theorem rep_ok {n : Nat} {z : Str} (hn : n ≤ 61) (h : TOk z) (hl : z.length ≤ 5) : LOk 1000 (List.replicate n z) := by
  refine ⟨?_, fun y hy => by rw [List.eq_of_mem_replicate hy]; exact h⟩
  have : ∀ n : Nat, lenW (List.replicate n z) = n * (z.length + 1) := by
    intro n
    induction n with
    | zero => simp [lenW]
    | succ n ih => rw [List.replicate_succ, lenW_cons, ih, Nat.succ_mul]; omega
  rw [this]
  have : n * (z.length + 1) ≤ 61 * 6 := Nat.mul_le_mul hn (by omega)
  omega
theorem jn_ok {n : Nat} {z : Str} (hn : n ≤ 61) (h : TOk z) (hl : z.length ≤ 5) : TOk (jn n z) ∧ (jn n z).length ≤ 1000 := (rep_ok hn h hl).join (tok_lit (by decide +kernel)) (by decide +kernel)
def someL : List Str := ((((s11 ++ s8) ++ s6) ++ [jn 61 "end"]) ++ [jn 60 "end"]) ++ [jn 61 "go 60"]
theorem some_ok : ∀ z ∈ someL, TOk z ∧ z.length ≤ 1000 := by
  intro z hz
  unfold someL at hz
  rcases List.mem_append.mp hz with hz | hz
  · rcases List.mem_append.mp hz with hz | hz
    · rcases List.mem_append.mp hz with hz | hz
      · exact okT.of (List.all_eq_true.mp (by decide +kernel : ((s11 ++ s8) ++ s6).all okT = true) z hz)
      · rw [List.mem_singleton.mp hz]
        exact jn_ok (by decide) (tok_lit (by decide +kernel)) (by decide +kernel)
    · rw [List.mem_singleton.mp hz]
      exact jn_ok (by decide) (tok_lit (by decide +kernel)) (by decide +kernel)
  · rw [List.mem_singleton.mp hz]
    exact jn_ok (by decide) (tok_lit (by decide +kernel)) (by decide +kernel)
theorem first_of {p : Nat → Bool} {n b : Nat} {r : List Nat} (h : (List.range n).filter p = b :: r) : p b = true ∧ b < n ∧ ∀ j, j < b → p j = false := by
  have h1 : b ∈ (List.range n).filter p := by rw [h]; exact List.mem_cons_self ..
  obtain ⟨h2, h3⟩ := List.mem_filter.mp h1
  refine ⟨h3, List.mem_range.mp h2, fun j hj => ?_⟩
  have s : ((List.range n).filter p).Pairwise (· < ·) := List.Pairwise.filter _ List.pairwise_lt_range
  cases e : p j with
  | false => rfl
  | true =>
    have hm : j ∈ (List.range n).filter p := List.mem_filter.mpr ⟨List.mem_range.mpr (Nat.lt_trans hj (List.mem_range.mp h2)), e⟩
    rw [h] at hm s
    rcases List.mem_cons.mp hm with z | z
    · omega
    · have := (List.pairwise_cons.mp s).1 j z
      omega
theorem none_of {p : Nat → Bool} {n : Nat} (h : (List.range n).filter p = []) : ∀ j, j < n → p j = false := fun j hj => by
  have := List.filter_eq_nil_iff.mp h j (List.mem_range.mpr hj)
  exact Bool.eq_false_iff.mpr this
def bndT : Nat → Nat
  | 0 => 1740
  | i + 1 => 6 * bndT i + 40
theorem bnd_lt {i : Nat} (h : i < 3) : bndT i ≤ 100000 := by
  obtain rfl | rfl | rfl : i = 0 ∨ i = 1 ∨ i = 2 := by omega
  all_goals decide
theorem bnd_le {i : Nat} (h : i ≤ 3) : bndT i ≤ 400000 := by
  obtain rfl | rfl | rfl | rfl : i = 0 ∨ i = 1 ∨ i = 2 ∨ i = 3 := by omega
  all_goals decide
def vD : V → PyData
  | .bl b => .bool b
  | .int i => .int i
  | .str z => .str z
  | _ => .none
end Tm
set_option Elab.async false
set_option linter.all false
set_option maxRecDepth 100000
set_option maxHeartbeats 1000000
set_option pp.maxSteps 600
set_option pp.deepTerms false
namespace Tm
open PySem L2 TL
def spReadO : Sp := fun vs H Q _ => ∃ t : Str, vs = [.str t] ∧ t.length ≤ 500000 ∧ GoodL (linesOf t) ∧ ∀ (p : Addr) (us : List V) (H' : Hp), Same H H' → H' p = some (.tup us) → RowsAt H' us (linesOf t) → Q (.ref p) H'
def FndAt (n : Int) (H : Hp) (vs : List V) (ls : List Str) : Prop := Paired (fun (v : V) (l : Str) => if rowB n (rowV l) = true then ∃ t, v = .ref t ∧ H t = some (.tup (rowV l)) else v = .non) vs ls
theorem fnd_mono {n : Int} {H H' : Hp} {v : V} {l : Str} (tp : Tups H H') (h : if rowB n (rowV l) = true then ∃ t, v = .ref t ∧ H t = some (.tup (rowV l)) else v = .non) : if rowB n (rowV l) = true then ∃ t, v = .ref t ∧ H' t = some (.tup (rowV l)) else v = .non := by
  split at h
  · rename_i c
    rw [if_pos c]
    obtain ⟨t, e, q⟩ := h
    exact ⟨t, e, tp _ _ q⟩
  · rename_i c
    rw [if_neg c]
    exact h
theorem FndAt.tups {n : Int} {H H' : Hp} {vs : List V} {ls : List Str} (h : FndAt n H vs ls) (tp : Tups H H') : FndAt n H' vs ls := Paired.mapP h fun _ _ q => fnd_mono tp q
theorem FndAt.rows {n : Int} {H : Hp} {vs : List V} {ls : List Str} (h : FndAt n H vs ls) (g : ∀ l ∈ ls, rowB n (rowV l) = true) : RowsAt H vs ls := by
  unfold FndAt at h
  unfold RowsAt
  induction h with
  | nil => exact .nil
  | cons a b ih =>
    refine .cons ?_ (ih fun l hl => g l (List.mem_cons_of_mem _ hl))
    rw [if_pos (g _ (List.mem_cons_self ..))] at a
    exact a
def badK (n : Int) (ls : List Str) (k : Nat) : Bool := match ls[k]? with
  | some l => !rowB n (rowV l) || decide (59 < k)
  | none => false
theorem badK_at {n : Int} {ls : List Str} {k : Nat} {l : Str} (e : ls[k]? = some l) : badK n ls k = (!rowB n (rowV l) || decide (59 < k)) := by
  unfold badK
  rw [e]
theorem good_of {ls : List Str} (h : (List.range ls.length).filter (badK ls.length ls) = []) : GoodL ls := by
  have a := none_of h
  refine ⟨Nat.le_of_not_lt fun c => ?_, fun l hl => ?_⟩
  · have := a 60 c
    rw [badK_at (List.getElem?_eq_getElem c)] at this
    simp at this
  · obtain ⟨i, hi⟩ := List.getElem?_of_mem hl
    have := a i (List.getElem?_eq_some_iff.mp hi).1
    rw [badK_at hi] at this
    have := (Bool.or_eq_false_iff.mp this).1
    simpa using this
theorem bad_of {ls : List Str} {b : Nat} {r : List Nat} (h : (List.range ls.length).filter (badK ls.length ls) = b :: r) : BadL ls b := by
  obtain ⟨h1, h2, h3⟩ := first_of h
  have h60 : b ≤ 60 := Nat.le_of_not_lt fun c => by
    have := h3 60 c
    rw [badK_at (List.getElem?_eq_getElem (by omega))] at this
    simp at this
  refine ⟨fun j l hj e => ?_, h60, ls[b], List.getElem?_eq_getElem h2, ?_⟩
  · have := h3 j hj
    rw [badK_at e] at this
    have := (Bool.or_eq_false_iff.mp this).1
    simpa using this
  · rw [badK_at (List.getElem?_eq_getElem h2)] at h1
    rcases Bool.or_eq_true_iff.mp h1 with c | c
    · exact .inr (by simpa using c)
    · exact .inl (by have := of_decide_eq_true c; omega)
theorem row_dq {H : Hp} {n : Nat} {t : Addr} {l : Str} (e : H t = some (.tup (rowV l))) : Dq H (n + 1) (.ref t) (.tuple ((rowV l).map vD)) := by
  refine .inr (.inl ⟨t, _, _, rfl, rfl, e, Nat.le_trans (rowV_len l) (by decide), ?_⟩)
  have a : ∀ x ∈ rowV l, scalD x (vD x) := fun x hx => by
    unfold rowV at hx
    split at hx
    · rcases List.mem_cons.mp hx with rfl | hx
      · exact rfl
      · obtain ⟨p, _, rfl⟩ := List.mem_map.mp hx
        rcases readV_cases p.1 p.2 with e | ⟨m, e, _⟩ | ⟨z, e, _⟩
        · rw [e]; trivial
        · rw [e]; exact rfl
        · rw [e]; exact rfl
    · cases hx
  generalize rowV l = xs at a
  clear e
  induction xs with
  | nil => exact .nil
  | cons x xs ih =>
    refine .cons ?_ (ih fun y hy => a y (List.mem_cons_of_mem _ hy))
    have := a x (List.mem_cons_self ..)
    cases n with
    | zero => exact this
    | succ n => exact .inl this
theorem RowsAt.dq {H : Hp} {us : List V} {ls : List Str} (h : RowsAt H us ls) {p : Addr} (e : H p = some (.tup us)) (hl : ls.length ≤ 60) : Dq H 2 (.ref p) (.tuple (ls.map fun l => .tuple ((rowV l).map vD))) := by
  refine .inr (.inl ⟨p, _, _, rfl, rfl, e, by have := Paired.length h; omega, ?_⟩)
  clear e hl
  unfold RowsAt at h
  induction h with
  | nil => exact .nil
  | cons a b ih =>
    obtain ⟨t, rfl, q⟩ := a
    exact .cons (row_dq q) ih
section
variable {P : Program} {w : World} {K : PySem.W.Frag} {mg : Str → Option Value} {base : Heap}
theorem ok_readO {f : Addr} {fd : FuncData} (F : Fun K "read" "read" s_read f fd) (T : Tx mg) (D_read_row : Df P w K mg base 3 "read_row" P_read_row [] spRRowG) (D_first_wrong : Df P w K mg base 5 "first_wrong" P_first_wrong [] (fun vs H Q E => spFirstO vs H Q E ∨ spFirstG vs H Q E)) : FnOk P w K mg base CX0 6 f fd P_read spReadO := by
  have sc := sc_read
  refine F.ok sc (fun vs H Q E h => ?_) (fun cdv A outer s H vs Q E hr h => ?_)
  · obtain ⟨xs, rfl, _⟩ := h
    rfl
  obtain ⟨tx, rfl, lt, g, k⟩ := h
  have hu := hu_of hr
  have hu64 := hr.units
  refine ⟨_, ((pss_cons (ps_set (i := 1) sc.nd rfl (by first | exact Or.inl rfl | exact Or.inr rfl) (pe_callTy call_tuple_of (by rfl) T.tuple (by decide +kernel) (pa_cons (pe_lc (own := [("line", 3)]) (g := gName 3) (by rfl) sc.nd (pi_list (pe_split (qv 0) pe_str)) (blkOk_by (own := [("line", 3)]) (N := N_read) (sc := defScope s_read) (by decide +kernel)) (fun _ _ _ _ _ => (pg_name (i := 3) sc.nd rfl (by first | exact Or.inl rfl | exact Or.inr rfl))) (fun _ _ _ _ _ => pts_nil) (fun _ _ _ _ _ => (qcall D_read_row (by first | exact hr | exact hr.mono (by omega)) (pa_cons (qv 3) pa_nil)))) pa_nil)))
  (pss_cons (ps_set (i := 2) sc.nd rfl (by first | exact Or.inl rfl | exact Or.inr rfl) (qcall D_first_wrong (by first | exact hr | exact hr.mono (by omega)) (pa_cons (qv 1) pa_nil)))
  (pss_cons (ps_if (pt_cmpR op_notN (qv 2) pe_non (nomark _))
  pss_never
  pss_nil)
  (pss_one (ps_ret (qv 1)))))) : PSs _ (_ :: _) _), ?_⟩
  refine ⟨⟨_, rfl⟩, _, _, rfl, rfl, by decide +kernel, (by have : tx.length + 2 ≤ 1000000 := by omega
                                                           exact small_le this), fun p hp => ?_⟩
  have e0 : Txt.split tx "\n" = linesOf tx := rfl
  rw [e0]
  have hm : (linesOf tx).length ≤ 1000000 := by
    have := cut_many (w := tx) line_ne line_k
    show (Txt.split tx (Str.ofString "\n")).length ≤ _
    omega
  have hl : ∀ l ∈ linesOf tx, l.length ≤ 500000 := fun l h => Nat.le_trans (cut_len line_ne line_k l h) (by omega)
  generalize linesOf tx = ls at hm hl g k
  have s1 := same_new hp (.lst (ls.map V.str))
  have hp1 : upd H p (.lst (ls.map V.str)) p = _ := upd_same
  generalize upd H p (.lst (ls.map V.str)) = H1 at s1 hp1
  refine ⟨p, rfl, ⟨_, SqL.of hp1⟩, fun D hD => ?_⟩
  have la : (ls.map V.str).length = ls.length := by rw [List.length_map]
  refine lc_by (n := ls.length) (fun i H2 => Same H1 H2 ∧ ∃ vs, H2 D = some (.lst vs) ∧ RowsAt H2 vs (ls.take i)) ⟨same_new hD _, [], upd_same, .nil⟩ ?_ ?_ ?_ ?_
  · rintro i H2 hi ⟨s2, d2⟩
    exact ⟨_, _, SqL.of (s2 _ _ hp1), List.getElem?_eq_getElem (by omega)⟩
  · rintro H2 ⟨s2, d2⟩
    exact ⟨_, SqL.of (s2 _ _ hp1), by omega⟩
  · rintro i H2 v H2' hi ⟨s2, vs, d2, r2⟩ ⟨rfl, hv⟩
    have hv := hv _ (SqL.of (s2 _ _ hp1))
    rw [List.getElem?_map] at hv
    obtain ⟨l, el, rfl⟩ := Option.map_eq_some_iff.mp hv
    refine ⟨rfl, ?_⟩
    refine ⟨l, rfl, hl l (List.mem_of_getElem? el), fun t H3 s3 et => ?_⟩
    have d3 := s3 _ _ d2
    have lv := Paired.length r2
    have tp : Tups H3 (upd H3 D (.lst (vs ++ [.ref t]))) := Tups.upd (soft_lst d3)
    refine ⟨_, d3, ?_, fill_same hD s2 s3, vs ++ [.ref t], upd_same, ?_⟩
    · rw [lv]
      exact small_m (Nat.le_trans (List.length_take_le' _ _) hm)
    · rw [List.take_succ, el]
      refine pair_app (Paired.mapP r2 fun _ _ ⟨t, e, q⟩ => ⟨t, e, tp _ _ (s3 _ _ q)⟩) (.cons ⟨t, rfl, tp _ _ et⟩ .nil)
  · rintro H2 ⟨s2, vs, d2, r2⟩
    rw [List.take_length] at r2
    refine ⟨D, vs, rfl, .inl ⟨SqL.of d2, fun tp htp => ?_⟩⟩
    have st := same_new htp (.tup vs)
    have r3 := RowsAt.same r2 st
    have et : upd H2 tp (.tup vs) tp = some (.tup vs) := upd_same
    have lv : vs.length = ls.length := Paired.length r3
    generalize upd H2 tp (.tup vs) = H3 at st r3 et
    have s03 := (s1.trans s2).trans st
    refine .inl ⟨tp, vs, rfl, et, by have := g.1; omega, fun v hv => ?_, fun H4 s4 => ?_⟩
    · obtain ⟨j, hj⟩ := List.getElem?_of_mem hv
      obtain ⟨v', l', e1, e2, t, rfl, q⟩ := Paired.get2 r3 (List.getElem?_eq_some_iff.mp hj).1
      rw [hj] at e1
      cases e1
      have := rowV_od (rows := vs.length) q
      rw [lv, g.2 l' (List.mem_of_getElem? e2)] at this
      rw [lv]
      exact this
    · refine ⟨rfl, _, rfl, iteF ?_⟩
      exact k tp vs H4 (s03.trans s4) (s4 _ _ et) (RowsAt.same r3 s4)
end
end Tm
set_option Elab.async false
set_option linter.all false
set_option maxRecDepth 100000
set_option maxHeartbeats 1000000
namespace L2
open PySem PySem.Spec PyProof.Rows
section
variable {X : Cx} {b0 : List Stmt} {k : Nat} {C f cc cda f2 : Addr} {fd fd2 : FuncData} {m slf : Str} {ps : List Str} {sp : Sp} {t : TA} {es : List Expr} {e : Expr} {pos p0 p1 apos : Pos} {E : XK}
end
theorem FunS.okX {P : Program} {w : World} {K : PySem.W.Frag} {mg : Str → Option Value} {base : Heap} {x qual : Str} {st : Stmt} {f cc cda : Addr} {fd : FuncData} {N : List Str} {k : Nat} {sp : Sp} {u0 : Value} (F : FunS K x qual st f cc cda fd) (S : SupScope N (defScope st)) (hcell : ∃ cl cld csl, K.lookup cc = some ⟨cl, cld, .cell (some u0), csl⟩) (len : ∀ vs H Q E, sp vs H Q E → vs.length = N.length)
    (hbody : ∀ (A : Around) (outer : List Env) (s : Shared) (H : Hp) (vs : List V) (Q : VK) (E : XK), Room k (A.deeper (PySem.W.envX qual (defScope st) s.heap.objs.size f (.ref cda) [("__class__", cc)])) → s.heap.FunFrames base outer → sp vs H Q E →
      ∃ t, PSsAt (cxC (CX1 P w) P w K mg base N qual (defScope st) f (.ref cda) [("__class__", cc)] A outer s H E) (defBody st) (defBody st) t ∧ t { nx := fun _ H' => Q .non H', rt := Q } (vs.map some) H) : FnOk P w K mg base (CX1 P w) (k + 1) f fd N sp := by
  obtain ⟨oc, od, kV, doc, pm, an, ct, osl, rfl, lk, hcd⟩ := F.ex
  obtain ⟨cl, cld, csl, hcell⟩ := hcell
  refine ⟨len, fun A outer s H args us vs Q E hr e0 hb r hsp => ?_⟩
  have hl := len _ _ _ _ hsp
  have KX : K.In s.heap := e0.mod.kin.keeps fun b o e => (e0.bs b o e).1
  have lim : s.heap.NoLimit := e0.mod.nolimit.keeps fun b o e => (e0.bs b o e).1
  have hkind : ∀ y ∈ N.zip us, (defScope st).names.lookup y.1 = some .local := fun ⟨n, v⟩ hy => S.par n (List.of_mem_zip hy).1
  have hn : H cc = none := (e0.bs _ _ (e0.mod.kin _ _ hcell)).2
  refine ks_codeAny_call_defAt (body := defBody st) (binds := N.zip us) hr.depth (KX _ _ lk) rfl lim (PySem.W.codeRec_of KX hcd) rfl hb S.nocell hkind (fun h0 hns hk => ?_) S.co S.gen S.kind
  obtain ⟨t, ht, hq⟩ := hbody A outer s H vs Q E (hr.deeper _) e0.funs hsp
  have I : Inv (cxC (CX1 P w) P w K mg base N qual (defScope st) f (.ref cda) [("__class__", cc)] A outer s H E) [] (vs.map some) H { s with heap := h0, toks := s.toks + (N.zip us).length } := inv_startS S hr.hd e0 ⟨_, KX _ _ hcell, rfl⟩ hn hl r hns hk
  refine ks_wpAt_mono (ht [] _ _ H _ I hq) (fun fl s' hs => ?_) fun e s' hs => hs
  have fin : ∀ {σ' : St} {H' : Hp} {v : V} {u : Value}, Inv (cxC (CX1 P w) P w K mg base N qual (defScope st) f (.ref cda) [("__class__", cc)] A outer s H E) [] σ' H' s' → RelV v u → Q v H' → CE outer P w H s Q u s' :=
    fun {σ' H' v u} J rv q => ⟨v, H', J.os, J.bare, J.base, J.hok, rv, q⟩
  cases fl with
  | ret u =>
    obtain ⟨v, σ', H', J, rv, q⟩ := hs
    exact fin J rv q
  | next =>
    obtain ⟨σ', H', J, q⟩ := hs
    exact fin (v := V.non) (u := Value.none) J rfl q
  | brk =>
    obtain ⟨_, _, _, q⟩ := hs
    exact False.elim q
  | cont =>
    obtain ⟨_, _, _, q⟩ := hs
    exact False.elim q
end L2
set_option Elab.async false
set_option linter.all false
set_option maxRecDepth 100000
set_option maxHeartbeats 1000000
namespace L2
open PySem PySem.Spec PyProof.Rows
def phK (c : Addr) (v : V) : Heap → Prop := fun h => ∃ u, RelV v u ∧ h.IsCell c (some u)
section
variable {P : Program} {w : World} {K : PySem.W.Frag} {mg : Str → Option Value} {base : Heap} {A : Around} {outer : List Env} {s : Shared} {H H' : Hp} {h h' : Heap} {c : Addr} {φ : Heap → Prop} {fs : List Addr}
theorem HOk.unH (ok : HOk P w H h) (e : H c = some (.ext φ)) : HOk P w (unH H c) h := fun b u q => by
  by_cases hb : b = c
  · rw [hb, unH_same] at q; cases q
  · rw [unH_ne hb] at q
    refine (ok b u q).stay (fun _ _ _ z => z) (fun d z => ?_) fun d xs z => ?_
    · rw [unH_ne (fun y => by rw [y, e] at z; cases z)]; exact z
    · rw [unH_ne (fun y => by rw [y, e] at z; cases z)]; exact z
theorem unH_none {b : Addr} (e : H b = none) : unH H c b = none := by
  unfold unH
  split
  · rfl
  · exact e
theorem Env0.unH (e0 : Env0 P w K mg base A outer s H) (e : H c = some (.ext φ)) : Env0 P w K mg base A outer s (unH H c) :=
  ⟨e0.frames, e0.mod, fun b o z => ⟨(e0.bs b o z).1, unH_none (e0.bs b o z).2⟩, e0.bsz, e0.funs, fun b z => unH_none (e0.frf b z), e0.hok.unH e, e0.bare⟩
end
section
variable {P : Program} {w : World} {K : PySem.W.Frag} {mg : Str → Option Value} {base : Heap} {k : Nat} {f cd c T0 : Addr} {x p : Str} {v : V} {qual : Str} {params : Arguments} {body : Expr} {scope : Scope} {pm ct doc : Value} {sp : Hp → VK → XK → Prop}
end
section
variable {X : Cx} {ps : List (Addr × Obj)} {W : St → XK} {i k : Nat} {x : Str} {p pos : Pos}
end
section
variable {X : Cx} {params : Arguments} {body e0 : Expr} {scope : Scope} {pos : Pos} {c T : Addr} {clos : List (Str × Addr)} {n : Int}
end
end L2
set_option Elab.async false
set_option linter.all false
set_option maxRecDepth 100000
set_option maxHeartbeats 1000000
namespace L2
open PySem PySem.Spec PyProof.Rows
def AllK (H : Hp) (cells : List (Addr × V)) : Prop := ∀ p ∈ cells, H p.1 = some (.ext (phK p.1 p.2))
section
variable {P : Program} {w : World} {K : PySem.W.Frag} {mg : Str → Option Value} {base : Heap} {A : Around} {outer : List Env} {s : Shared} {h h' : Heap} {fs : List Addr}
theorem AllK.tail {H : Hp} {p : Addr × V} {r : List (Addr × V)} (a : AllK H (p :: r)) (nd : ((p :: r).map (·.1)).Nodup) : AllK (unH H p.1) r := fun q hq => by
  have n : q.1 ≠ p.1 := fun z => by
    rw [List.map_cons, List.nodup_cons] at nd
    exact nd.1 (List.mem_map.mpr ⟨q, hq, z⟩)
  rw [unH_ne n]
  exact a q (List.mem_cons_of_mem _ hq)
end
abbrev Cl := List (Str × Addr × V)
def Cl.clos (c : Cl) : List (Str × Addr) := c.map fun p => (p.1, p.2.1)
def Cl.fr (c : Cl) : List Str := c.map (·.1)
def Cl.ws (c : Cl) : List V := c.map (·.2.2)
def Cl.cells (c : Cl) : List (Addr × V) := c.map (·.2)
theorem Cl.look {c : Cl} {x : Str} {a : Addr} (h : c.clos.lookup x = some a) : ∃ v, (x, a, v) ∈ c := by
  have q := PySem.mem_of_lookup h
  obtain ⟨⟨y, b, v⟩, m, e⟩ := List.mem_map.mp q
  cases e
  exact ⟨v, m⟩
theorem Cl.inj {c : Cl} (nd : (c.cells.map (·.1)).Nodup) {x y : Str} {a : Addr} (h1 : c.clos.lookup x = some a) (h2 : c.clos.lookup y = some a) : x = y := by
  obtain ⟨v, m1⟩ := Cl.look h1
  obtain ⟨u, m2⟩ := Cl.look h2
  clear h1 h2
  induction c with
  | nil => cases m1
  | cons p r ih =>
    have nd' : (p.2.1 :: (Cl.cells r).map (·.1)).Nodup := nd
    obtain ⟨n1, n2⟩ := List.nodup_cons.mp nd'
    have out : ∀ {x : Str} {v : V}, (x, p.2.1, v) ∈ r → False := fun {x v} m => n1 (List.mem_map.mpr ⟨(p.2.1, v), List.mem_map.mpr ⟨_, m, rfl⟩, rfl⟩)
    rcases List.mem_cons.mp m1 with z1 | z1 <;> rcases List.mem_cons.mp m2 with z2 | z2
    · rw [← z1] at z2
      exact (congrArg Prod.fst z2).symm
    · rw [← z1] at out
      exact (out z2).elim
    · rw [← z2] at out
      exact (out z1).elim
    · exact ih n2 z1 z2
section
variable {P : Program} {w : World} {K : PySem.W.Frag} {mg : Str → Option Value} {base : Heap} {k : Nat} {f cd T0 : Addr} {c : Cl} {p : Str} {qual : Str} {params : Arguments} {body : Expr} {scope : Scope} {pm ct doc : Value} {sp : Hp → VK → XK → Prop}
end
end L2
set_option Elab.async false
set_option linter.all false
set_option maxRecDepth 100000
set_option maxHeartbeats 1000000
namespace L2
open PySem PySem.Spec PyProof.Rows
def LamOkC (P : Program) (w : World) (K : PySem.W.Frag) (mg : Str → Option Value) (base : Heap) (k : Nat) (f : Addr) (Cd : Heap → Hp → List Env → Prop) (spA : Hp → VK → XK → Prop) : Prop :=
  (∀ H Q E, spA H Q E → ∃ fd, H f = some (.ext (phF f fd))) ∧ ∀ (A : Around) (outer : List Env) (s : Shared) (H : Hp) (Q : VK) (E : XK), Room k A → Env0 P w K mg base A outer s H → Cd s.heap H outer → spA H Q E → codeAny (model P w) A (.call (.ref f) ⟨[], []⟩) (CR (CX1 P w) outer P w H s Q E) s
section
variable {P : Program} {w : World} {K : PySem.W.Frag} {mg : Str → Option Value} {base : Heap} {k : Nat} {f cd : Addr} {clos : List (Str × Addr)} {fr : List Str} {ws : List V} {qual : Str} {params : Arguments} {body : Expr} {scope : Scope} {pm ct : Value} {sp : Hp → VK → XK → Prop}
theorem lam_okC (S : CloScope0 fr scope) (inj : ∀ x y c, clos.lookup x = some c → clos.lookup y = some c → x = y) (lw : ws.length = fr.length) (hb : bindArgs (PySem.W.kla_fn "<lambda>" qual params body scope clos pm (.ref cd) ct) ⟨[], []⟩ = pure [])
    (hbody : ∀ (A : Around) (outer : List Env) (s : Shared) (H : Hp) (Q : VK) (E : XK), Room k (A.deeper (PySem.W.envX qual scope s.heap.objs.size f (.ref cd) clos)) → sp H Q E →
      ∃ t, PE (cxC (CX1 P w) P w K mg base fr qual scope f (.ref cd) clos A outer s H E) body t ∧ t (ws.map some) H Q) :
    LamOkC P w K mg base (k + 1) f (fun h H outer => CellsAt h H outer clos fr ws) (fun H Q E => H f = some (.ext (phF f (PySem.W.kla_fn "<lambda>" qual params body scope clos pm (.ref cd) ct))) ∧ H cd = some (.ext (phC cd qual)) ∧ sp H Q E) := by
  refine ⟨fun H Q E h => ⟨_, h.1⟩, fun A outer s H Q E hr e0 hC h => ?_⟩
  obtain ⟨hf, hcd, hs⟩ := h
  have at1 : s.heap.get? f = some { cls := .type "function", data := .func (PySem.W.kla_fn "<lambda>" qual params body scope clos pm (.ref cd) ct) } := (e0.hok f _ hf).1
  have hcode : s.heap.CodeRec (.ref cd) qual := (e0.hok cd _ hcd).1
  obtain ⟨t, ht, hq⟩ := hbody A outer s _ _ _ (hr.deeper _) hs
  exact run_lam0 (ws := ws) at1 hcode S inj hC lw hr e0 hb ht hq
end
section
variable {X : Cx} {ps : List (Addr × Obj)} {W : St → XK} {i k : Nat} {x : Str} {p pos : Pos} {Cd : Heap → Hp → List Env → Prop}
theorem qcallLamC (hcl : ∀ pins s σ H, Inv X pins σ H s → Cd s.heap H X.stack) (hr : Room k X.A) (hN : X.N[i]? = some x := by rfl)
    (hv : Vis X.env.scope x := by first | exact Or.inl rfl | exact Or.inr (Or.inl rfl) | exact Or.inr (Or.inr rfl)) (hd : (x == ("__debug__" : Str)) = false := by decide) (hcd : (x == ("__classdict__" : Str)) = false := by decide) :
    PE (X.tries ps W) (.Call (.Name x p) [] [] pos) (fun σ H Q => ∃ f spA, σ[i]? = some (some (.ref f)) ∧ LamOkC X.prog X.w X.K X.mg X.base k f Cd spA ∧ spA H Q (W σ)) := by
  intro pins s σ H Q I h
  obtain ⟨f, spA, h0, L, h⟩ := h
  refine wpAny_Call_Name_kw (thn (pe_var (X := X.tries ps W) (pos := p) hN hv hd hcd pins s σ H (fun v H1 => v = .ref f ∧ H1 = H) I ⟨_, h0, rfl, rfl⟩) fun u s1 ⟨v, H1, I1, r, e1, e2⟩ => ?_)
  subst e1 e2
  cases r
  obtain ⟨fd, hf⟩ := L.1 _ _ _ h
  have at1 : s1.heap.get? f = some { cls := .type "function", data := .func fd } := (I1.hok f _ hf).1
  refine PySem.W.callWith_F0 ⟨_, _, _, _, at1⟩ ?_
  have J : Inv X (X.pn ++ ps) σ H1 s1 := ⟨I1.ok.unwish.unpin, I1.os, I1.bare, I1.base, I1.loc, I1.cell, I1.free, I1.freeC, (fun q hq => I1.pin q (List.mem_append_left _ (by
    rcases List.mem_append.mp hq with z | z
    · exact List.mem_append_left _ z
    · exact z))), I1.hok, I1.len⟩
  refine wpAny_call (codeAny_mono (L.2 X.A X.stack s1 H1 Q (W σ) hr J.env0 (hcl _ _ _ _ J) h) fun r s' hq => ?_)
  cases r with
  | error e => exact ⟨pins, σ, H1, s1, I1.unwish, hq⟩
  | ok fl =>
    cases fl with
    | ret u => exact I1.after hq
    | next => exact False.elim hq
    | brk => exact False.elim hq
    | cont => exact False.elim hq
end
end L2
set_option Elab.async false
set_option linter.all false
set_option maxRecDepth 100000
set_option maxHeartbeats 1000000
namespace Tm
open PySem L2
def Tt (H : Hp) : Nat → V → PyData → Prop
  | 0, v, d => scalD v d
  | n + 1, v, d => scalD v d ∨ ∃ a xs ds, v = .ref a ∧ d = .tuple ds ∧ H a = some (.tup xs) ∧ Paired (Tt H n) xs ds
theorem Tt.tups {H H' : Hp} (s : Tups H H') : ∀ {n : Nat} {v : V} {d : PyData}, Tt H n v d → Tt H' n v d
  | 0, _, _, h => h
  | n + 1, v, d, h => by
    rcases h with h | ⟨a, xs, ds, e1, e2, e3, r⟩
    · exact .inl h
    · exact .inr ⟨a, xs, ds, e1, e2, s _ _ e3, Paired.mapP r fun _ _ => Tt.tups s⟩
theorem scal_dp {K : PySem.W.Frag} {H : Hp} : ∀ {v : V} {d : PyData}, scalD v d → Dp K H v d := fun {v d} h => by
  cases v with
  | int i => cases d with
    | int j => cases (show i = j from h); exact Dp.int i
    | _ => exact h.elim
  | bl b => cases d with
    | bool c => cases (show b = c from h); exact Dp.bl b
    | _ => exact h.elim
  | str x => cases d with
    | str y => cases (show x = y from h); exact Dp.str x
    | _ => exact h.elim
  | non => cases d with
    | none => exact Dp.non
    | _ => exact h.elim
  | _ => cases d <;> exact h.elim
theorem Tt.up {H : Hp} : ∀ {n : Nat} {v : V} {d : PyData}, Tt H n v d → Tt H (n + 1) v d
  | 0, _, _, h => .inl h
  | n + 1, _, _, h => by
    rcases h with h | ⟨a, xs, ds, e1, e2, e3, r⟩
    · exact .inl h
    · exact .inr ⟨a, xs, ds, e1, e2, e3, Paired.mapP r fun _ _ => Tt.up⟩
mutual
theorem Tt.dp {K : PySem.W.Frag} {H : Hp} : ∀ {n : Nat} {v : V} {d : PyData}, Tt H n v d → Dp K H v d
  | 0, _, _, h => scal_dp h
  | n + 1, v, d, h => by
    rcases h with h | ⟨a, xs, ds, rfl, rfl, e3, r⟩
    · exact scal_dp h
    · exact .tup (SqT.of e3) (Tt.dps r)
theorem Tt.dps {K : PySem.W.Frag} {H : Hp} {n : Nat} : ∀ {xs : List V} {ds : List PyData}, Paired (Tt H n) xs ds → DpAll K H xs ds
  | _, _, .nil => .nil
  | _, _, .cons a b => .cons (Tt.dp a) (Tt.dps b)
end
def datX : V → PyData
  | .int i => .int i
  | .str z => .str z
  | .bl b => .bool b
  | _ => .none
def layV : V → Bool
  | .int _ => true
  | .bl _ => true
  | .non => true
  | .str z => z.cps.toList.all (fun c => decide (c < 0x110000))
  | _ => false
theorem lay_scal {v : V} (h : layV v = true) : scalD v (datX v) ∧ (datX v).canLay0 = true ∧ (datX v).depth = 0 := by
  cases v <;> first | cases h; done | skip
  case int i => exact ⟨rfl, by simp [datX, PyData.canLay0], by simp [datX, PyData.depth]⟩
  case bl b => exact ⟨rfl, by simp [datX, PyData.canLay0], by simp [datX, PyData.depth]⟩
  case non => exact ⟨trivial, by simp [datX, PyData.canLay0], by simp [datX, PyData.depth]⟩
  case str z =>
    refine ⟨rfl, ?_, by simp [datX, PyData.depth]⟩
    simp only [datX, PyData.canLay0]
    show z.cps.all _ = true
    rw [← Array.all_toList]
    exact h
def TtAll (H : Hp) (n : Nat) (xs : List V) (ds : List PyData) : Prop := Paired (Tt H n) xs ds ∧ PyData.canLayAll0 ds = true ∧ PyData.depthAll ds ≤ n
def TtOk (H : Hp) (n : Nat) (v : V) (d : PyData) : Prop := Tt H n v d ∧ d.canLay0 = true ∧ d.depth ≤ n
theorem TtAll.nil {H : Hp} {n : Nat} : TtAll H n [] [] := ⟨.nil, by simp [PyData.canLayAll0], by simp [PyData.depthAll]⟩
theorem TtAll.cons {H : Hp} {n : Nat} {v : V} {d : PyData} {vs : List V} {ds : List PyData} (a : TtOk H n v d) (b : TtAll H n vs ds) : TtAll H n (v :: vs) (d :: ds) := by
  refine ⟨.cons a.1 b.1, ?_, ?_⟩
  · rw [PyData.canLayAll0, a.2.1, b.2.1]
    rfl
  · have h1 := a.2.2
    have h2 := b.2.2
    rw [PyData.depthAll]
    omega
theorem TtOk.tups {H H' : Hp} {n : Nat} {v : V} {d : PyData} (h : TtOk H n v d) (s : Tups H H') : TtOk H' n v d := ⟨h.1.tups s, h.2⟩
theorem TtOk.up {H : Hp} {n : Nat} {v : V} {d : PyData} (h : TtOk H n v d) : TtOk H (n + 1) v d := ⟨h.1.up, h.2.1, Nat.le_succ_of_le h.2.2⟩
theorem TtOk.scal {H : Hp} {n : Nat} {v : V} (h : layV v = true) : TtOk H n v (datX v) := by
  obtain ⟨a, b, c⟩ := lay_scal h
  refine ⟨?_, b, by rw [c]; exact Nat.zero_le _⟩
  cases n with
  | zero => exact a
  | succ n => exact .inl a
theorem TtAll.scal {H : Hp} {n : Nat} : ∀ {xs : List V}, xs.all layV = true → TtAll H n xs (xs.map datX)
  | [], _ => .nil
  | v :: vs, h => by
    rw [List.all_cons, Bool.and_eq_true] at h
    exact .cons (.scal h.1) (TtAll.scal h.2)
theorem TtOk.tup {H : Hp} {n : Nat} {a : Addr} {xs : List V} {ds : List PyData} (e : H a = some (.tup xs)) (h : TtAll H n xs ds) : TtOk H (n + 1) (.ref a) (.tuple ds) := by
  refine ⟨.inr ⟨a, xs, ds, rfl, rfl, e, h.1⟩, ?_, ?_⟩
  · simp only [PyData.canLay0]
    exact h.2.1
  · simp only [PyData.depth]
    have := h.2.2
    omega
theorem TtAll.tups {H H' : Hp} {n : Nat} {xs : List V} {ds : List PyData} (h : TtAll H n xs ds) (s : Tups H H') : TtAll H' n xs ds := ⟨Paired.mapP h.1 fun _ _ => Tt.tups s, h.2⟩
theorem TtAll.at {H : Hp} {n : Nat} : ∀ {xs : List V}, (∀ v ∈ xs, ∃ d, TtOk H n v d) → ∃ ds, TtAll H n xs ds
  | [], _ => ⟨[], .nil⟩
  | v :: vs, h => by
    obtain ⟨d, hd⟩ := h v (by simp)
    obtain ⟨ds, hs⟩ := TtAll.at (xs := vs) fun u hu => h u (List.mem_cons_of_mem _ hu)
    exact ⟨d :: ds, .cons hd hs⟩
theorem TtOk.shaped {H : Hp} {n : Nat} {v : V} {d : PyData} (h : TtOk H n v d) (hn : n ≤ 64) : SeqAt.shaped d = true :=
  Bool.and_eq_true_iff.mpr ⟨h.2.1, decide_eq_true (Nat.le_trans h.2.2 hn)⟩
end Tm
set_option Elab.async false
set_option linter.all false
set_option maxRecDepth 100000
set_option maxHeartbeats 1000000
namespace Tm
open PySem L2
def eltE (i : Nat) : Expr → Expr
  | .List es _ => es.getD i (.Tuple [] 0 ⟨0, 0, 0, 0⟩)
  | .Call _ es _ _ => es.getD i (.Tuple [] 0 ⟨0, 0, 0, 0⟩)
  | e => e
def lamA : Expr → Arguments
  | .Lambda a _ _ _ => a
  | _ => defArgs (.Pass ⟨0, 0, 0, 0⟩)
def lamB : Expr → Expr
  | .Lambda _ b _ _ => b
  | e => e
def lamS : Expr → Scope
  | .Lambda _ _ s _ => s
  | _ => defScope (.Pass ⟨0, 0, 0, 0⟩)
def ifsP : Stmt → List Stmt
  | .If _ b _ _ => b
  | _ => []
def forBodyP : Stmt → List Stmt
  | .For _ _ b _ _ => b
  | _ => []
def cmpLP : Stmt → Expr
  | .If (.Compare l _ _ _) _ _ _ => l
  | .Return (some (.Compare l _ _ _)) _ => l
  | _ => .Tuple [] 0 ⟨0, 0, 0, 0⟩
abbrev stP0 : Stmt := .Pass ⟨0, 0, 0, 0⟩
theorem scW0 {fr : List Str} {sc : Scope} (kind : sc.kind = .function) (co : sc.isCoroutine = false) (gen : sc.isGenerator = false) (fre : ∀ x ∈ fr, sc.names.lookup x = some .free) (nocell : ∀ x ∈ sc.names, x.2 ≠ .cell) (only : ∀ x ∈ sc.names, x.2 = .free → x.1 ∈ fr) : CloScope0 fr sc := ⟨kind, co, gen, fre, nocell, fun x h => only _ (PySem.mem_of_lookup h) rfl⟩
theorem cloP_inj {clos : List (Str × Addr)} (nd : (clos.map (·.2)).Nodup) : ∀ x y c, clos.lookup x = some c → clos.lookup y = some c → x = y := fun x y c h1 h2 => by
  have m1 := PySem.mem_of_lookup h1
  have m2 := PySem.mem_of_lookup h2
  obtain ⟨i, hi⟩ := List.mem_iff_getElem?.mp m1
  obtain ⟨j, hj⟩ := List.mem_iff_getElem?.mp m2
  have e1 : (clos.map (·.2))[i]? = some c := by rw [List.getElem?_map, hi]; rfl
  have e2 : (clos.map (·.2))[j]? = some c := by rw [List.getElem?_map, hj]; rfl
  obtain rfl : i = j := (List.getElem?_inj (List.getElem?_eq_some_iff.mp e1).1 nd).mp (e1.trans e2.symm)
  cases hi.symm.trans hj
  rfl
section
variable {K : PySem.W.Frag} {R T2 : Addr} {q : Str} {H H' : Hp}
theorem _root_.L2.TblL.tbl (h : TblL q H T2) : ∃ ps, H T2 = some (.tbl ps) := let ⟨_, e, _⟩ := h; ⟨_, e⟩
theorem _root_.L2.TblL.by_ (h : TblL q H T2) (k1 : ∀ ps, H T2 = some (.tbl ps) → H' T2 = some (.tbl ps)) (k2 : ∀ b p, H b = some (.ext p) → H' b = some (.ext p)) : TblL q H' T2 := by
  obtain ⟨es, e, c⟩ := h
  exact ⟨es, k1 _ e, fun x hx => k2 _ _ (c x hx)⟩
theorem _root_.L2.TblL.same (h : TblL q H T2) (s : Same H H') : TblL q H' T2 := h.by_ (fun _ e => s _ _ e) fun _ _ e => s _ _ e
theorem _root_.L2.TblL.on (h : TblL q H T2) (r : RowAt K H R) (o : On K R H H') : TblL q H' T2 := by
  obtain ⟨ys, er⟩ := r.lst
  exact h.by_ (fun _ e => o.at e fun z => by rw [z, er] at e; cases e) fun _ _ e => o.at e fun z => by rw [z, er] at e; cases e
theorem _root_.L2.TblL.ne (h : TblL q H T2) {b : Addr} {o : HO} (e : H b = some o) (z : ∀ ps, o ≠ .tbl ps) : b ≠ T2 := fun y => by
  obtain ⟨ps, t⟩ := h.tbl
  rw [y, t] at e
  exact z _ (Option.some.inj e).symm
theorem row_lam (r : RowAt K H R) (h : TblL q H T2) (k : ∀ b o, b ≠ T2 → H b = some o → H' b = some o) : RowAt K H' R := by
  obtain ⟨a, ns, i, s, c, hR, f, hl, hi⟩ := r
  refine ⟨a, ns, i, s, c, k _ _ (h.ne hR fun _ z => by cases z) hR, ?_, hl, hi⟩
  rcases f with ⟨ob, e⟩ | e
  · exact .inl ⟨ob, k _ _ (h.ne e fun _ z => by cases z) e⟩
  · exact .inr e
end
theorem pair_eq {K : PySem.W.Frag} {H : Hp} {a b : Addr} {z : Str} {i : Int} (lz : layV (.str z) = true) (e : H a = some (.tup [.str z, .int i])) (e2 : H b = some (.tup [.str z, .int i])) : ∃ d, Dp K H (.ref a) d ∧ Dp K H (.ref b) d ∧ SeqAt.shaped d = true ∧ d.canLay0 = true := by
  have t : TtAll H 0 [.str z, .int i] [.str z, .int i] := .cons (TtOk.scal (v := .str z) lz) (.cons (TtOk.scal (v := .int i) rfl) .nil)
  have T1 := TtOk.tup e t
  have T2 := TtOk.tup e2 t
  exact ⟨_, Tt.dp T1.1, Tt.dp T2.1, T1.shaped (by decide), T1.2.1⟩
theorem pair_ne {K : PySem.W.Frag} {H : Hp} {a b : Addr} {z : Str} {i : Int} {Q : VK} (lz : layV (.str z) = true) (e : H a = some (.tup [.str z, .int i])) (e2 : H b = some (.tup [.str z, .int i])) (q : Q (.bl false) H) : rNeA K (.ref a) (.ref b) H Q := by
  obtain ⟨d, d1, d2, sh, cl⟩ := pair_eq (K := K) lz e e2
  refine ⟨d, d, d1, d2, sh, sh, ?_⟩
  rw [PySem.SeqAt.eqv_refl _ cl]
  exact q
end Tm
set_option Elab.async false
set_option linter.all false
set_option maxRecDepth 100000
set_option maxHeartbeats 1000000
namespace Tm
open PySem L2
abbrev s_law_taken : Stmt := top 39
abbrev N_law_taken : List Str := ["_law_row_here", "_law_many", "_law_cell", "_law_found"]
abbrev P_law_taken : List Str := ["_law_row_here", "_law_many"]
theorem sc_law_taken : FnScope N_law_taken P_law_taken (defScope s_law_taken) := ⟨rfl, rfl, rfl, by decide +kernel, rfl, by decide +kernel, by decide +kernel⟩
section
variable {P : Program} {w : World} {K : PySem.W.Frag} {mg : Str → Option Value} {base : Heap}
theorem ok_taken {f : Addr} {fd : FuncData} (F : Fun K "_law_taken" "_law_taken" s_law_taken f fd) (T : Tx mg) : FnOk P w K mg base CX0 1 f fd P_law_taken (spTaken K) := by
  have sc := sc_law_taken
  refine F.ok sc (fun vs H Q E h => ?_) (fun cdv A outer s H vs Q E hr h => ?_)
  · obtain ⟨R, m, rfl, _⟩ := h
    rfl
  obtain ⟨R, m, rfl, ⟨a, ns, i, s, c, hR, far, hl, hi⟩, hm, hM, k⟩ := h
  have hu := hu_of hr
  refine ⟨_, ((pss_cons (ps_if (pt_cmpR oq_gt (pe_ix (iq K hu) (qv 0) pe_int (fun _ _ => rfl)) pe_int (nomark _))
  (pss_cons (ps_set (i := 3) sc.nd rfl (by first | exact Or.inl rfl | exact Or.inr rfl) (pe_op oq_mod (pe_ix (iq K hu) (qv 0) pe_int (fun _ _ => rfl)) (qv 1)))
  (pss_cons (ps_asg (pe_op oq_div (pe_ix (iq K hu) (qv 0) pe_int (fun _ _ => rfl)) (qv 1)) (pg_sub (qv 0) pe_int (sq hu)))
  (pss_one (ps_ret (qv 3)))))
  pss_nil)
  (pss_cons (ps_asg (pe_op (oq_add K) (pe_ix (iq K hu) (qv 0) pe_int (fun _ _ => rfl)) pe_int) (pg_sub (qv 0) pe_int (sq hu)))
  (pss_cons (ps_if (pt_cmpR oq_gt (pe_ix (iq K hu) (qv 0) pe_int (fun _ _ => rfl)) (pe_callB (cq_len K) (by rfl) T.len (by decide +kernel) (pa_cons (pe_ix (iq K hu) (qv 0) pe_int (fun _ _ => rfl)) pa_nil)) (nomark _))
  (pss_cons (ps_asg (pe_op oq_mod (pe_op (oq_add K) (pe_op oq_mul (pe_ix (iq K hu) (qv 0) pe_int (fun _ _ => rfl)) pe_int) pe_int) pe_int) (pg_sub (qv 0) pe_int (sq hu)))
  (pss_one (ps_ret (pe_op oq_mod (pe_op oq_div (pe_ix (iq K hu) (qv 0) pe_int (fun _ _ => rfl)) pe_int) (qv 1)))))
  pss_nil)
  (pss_cons (ps_set (i := 2) sc.nd rfl (by first | exact Or.inl rfl | exact Or.inr rfl) (pe_ix (iq K hu) (pe_ix (iq K hu) (qv 0) pe_int (fun _ _ => rfl)) (pe_op oq_sub (pe_ix (iq K hu) (qv 0) pe_int (fun _ _ => rfl)) pe_int) (fun _ _ => rfl)))
  (pss_cons (ps_asg (pe_op oq_mod (pe_op (oq_add K) (pe_op (oq_add K) (pe_op oq_mul (pe_ix (iq K hu) (qv 0) pe_int (fun _ _ => rfl)) pe_int) (qv 2)) pe_int) pe_int) (pg_sub (qv 0) pe_int (sq hu)))
  (pss_cons (ps_if (pt_cmpR oq_ge (qv 2) (pe_op oq_pow pe_int pe_int) (nomark _))
  (pss_one (ps_asg (pe_op oq_div (qv 2) (qv 1)) (pg_sub (qv 0) pe_int (sq hu))))
  pss_nil)
  (pss_one (ps_ret (pe_op oq_mod (qv 2) (qv 1)))))))))) : PSs _ (_ :: _) _), ?_⟩
  refine .inl ⟨_, _, SqL.of hR, rfl, _, rfl, ?_⟩
  refine ite2 (fun h1 => ?_) (fun h1 => ?_)
  · refine .inl ⟨_, _, SqL.of hR, rfl, hm, .inl ⟨_, _, SqL.of hR, rfl, ⟨hm, hM⟩, .inl ⟨_, _, hR, rfl, ?_⟩⟩⟩
    exact k _ _ (Int.emod_nonneg _ (by omega)) (Int.emod_lt_of_pos _ hm) ⟨RowAt.put far hl hi (soft_lst hR), Up.at R H _⟩
  · refine .inl ⟨_, _, SqL.of hR, rfl, .inl ⟨_, _, hR, rfl, ?_⟩⟩
    have far1 := far.upd (o := .lst [.ref a, .int (i + 1), .int s, .int c]) (soft_lst hR)
    have e1 : (upd H R (.lst [.ref a, .int (i + 1), .int s, .int c])) R = some (.lst [.ref a, .int (i + 1), .int s, .int c]) := upd_same
    refine .inl ⟨_, _, SqL.of e1, rfl, .inl ⟨_, _, SqL.of e1, rfl, .inl ⟨_, far1.sq, _, rfl, ?_⟩⟩⟩
    refine ite2 (fun h2 => ?_) (fun h2 => ?_)
    · refine .inl ⟨_, _, SqL.of e1, rfl, .inr ⟨by decide, by decide⟩, (by show (0 : Int) < 2147483647; decide), .inl ⟨_, _, e1, rfl, ?_⟩⟩
      refine .inl ⟨_, _, SqL.of upd_same, rfl, ⟨by decide, by decide⟩, hm, ?_⟩
      exact k _ _ (Int.emod_nonneg _ (by omega)) (Int.emod_lt_of_pos _ hm) ⟨RowAt.put far1 hl (by omega) (soft_lst e1), ((Up.at R H _).trans (Up.at R _ _))⟩
    · have h2' : ¬ ((((ns.map V.int).length : Nat) : Int) < i + 1) := fun z => h2 (decide_eq_true z)
      rw [List.length_map] at h2'
      have hk : i.toNat < ns.length := by omega
      have ev : atI (ns.map V.int) (i + 1 - 1) = some (.int (ns[i.toNat])) := by
        have q : i + 1 - 1 = ((i.toNat : Nat) : Int) := by omega
        rw [q]
        exact atI_nat (by rw [List.getElem?_map, List.getElem?_eq_getElem hk] <;> rfl)
      generalize ns[i.toNat] = v at ev
      refine .inl ⟨_, _, SqL.of e1, rfl, .inl ⟨_, _, SqL.of e1, rfl, .inl ⟨_, _, far1.sq, ev, ?_⟩⟩⟩
      refine .inl ⟨_, _, SqL.of e1, rfl, .inr ⟨by decide, by decide⟩, (by show (0 : Int) < 2147483647; decide), .inl ⟨_, _, e1, rfl, ?_⟩⟩
      refine ⟨⟨by decide, by decide, by decide⟩, _, rfl, ?_⟩
      refine ite2 (fun h3 => ?_) (fun h3 => ?_)
      · refine ⟨⟨hm, hM⟩, .inl ⟨_, _, upd_same, rfl, ?_⟩⟩
        refine ⟨hm, ?_⟩
        exact k _ _ (Int.emod_nonneg _ (by omega)) (Int.emod_lt_of_pos _ hm) ⟨RowAt.put (far1.upd (soft_lst e1)) hl (by omega) (soft_lst upd_same), (((Up.at R H _).trans (Up.at R _ _)).trans (Up.at R _ _))⟩
      · refine ⟨hm, ?_⟩
        exact k _ _ (Int.emod_nonneg _ (by omega)) (Int.emod_lt_of_pos _ hm) ⟨RowAt.put far1 hl (by omega) (soft_lst e1), ((Up.at R H _).trans (Up.at R _ _))⟩
end
end Tm
set_option Elab.async false
set_option linter.all false
set_option maxRecDepth 100000
set_option maxHeartbeats 16000000
set_option pp.maxSteps 900
set_option pp.deepTerms false
namespace Tm
open PySem L2 TL
def spSpoilt (K : PySem.W.Frag) : Sp := fun vs H Q _ => ∃ (R : Addr) (t : Str), vs = [.ref R, .str t] ∧ RowAt K H R ∧ TOk t ∧ t.length ≤ 100000 ∧ ∀ (z : Str) (H' : Hp), On K R H H' → TOk z → z.length ≤ 6 * t.length + 40 → Q (.str z) H'
theorem cut_strs {m : Nat} {ls : List Str} (h : LOk m ls) (lo hi : Option Int) : ∃ zs, cutV (ls.map V.str) lo hi = zs.map V.str ∧ LOk m zs := by
  unfold cutV
  rw [← List.map_drop, ← List.map_take]
  exact ⟨_, rfl, (h.drop _).take _⟩
theorem two_cuts {K : PySem.W.Frag} {te : TE} {A B C D : St → Hp → (Option Int → Hp → Prop) → Prop} {a b c d : Option Int} {σ : St} {H : Hp} {Q : VK} {p : Addr} {ls : List Str} {m : Nat} (hte : ∀ H' (Qv : VK), Qv (.ref p) H' → te σ H' Qv)
    (hA : ∀ H' (Qo : Option Int → Hp → Prop), Qo a H' → A σ H' Qo) (hB : ∀ H' (Qo : Option Int → Hp → Prop), Qo b H' → B σ H' Qo) (hC : ∀ H' (Qo : Option Int → Hp → Prop), Qo c H' → C σ H' Qo) (hD : ∀ H' (Qo : Option Int → Hp → Prop), Qo d H' → D σ H' Qo)
    (e : H p = some (.lst (ls.map V.str))) (L : LOk m ls) (hm : m ≤ 1000000) (k : ∀ (l : Addr) (zs : List Str) (H' : Hp), Same H H' → H' l = some (.lst (zs.map V.str)) → LOk (m + m) zs → Q (.ref l) H') :
    tOp (rAddA K) (tSl (rSlL K) te A B) (tSl (rSlL K) te C D) σ H Q := by
  obtain ⟨z1, e1, L1⟩ := cut_strs L a b
  obtain ⟨z2, e2, L2⟩ := cut_strs L c d
  refine hte _ _ (hA _ _ (hB _ _ ⟨p, _, rfl, SqL.of e, fun q1 h1 => ?_⟩))
  rw [e1]
  have s1 := same_new h1 (.lst (z1.map V.str))
  have f1 : upd H q1 (.lst (z1.map V.str)) q1 = some (.lst (z1.map V.str)) := upd_same
  have e := s1 _ _ e
  generalize upd H q1 (.lst (z1.map V.str)) = H1 at s1 f1 e ⊢
  refine hte _ _ (hC _ _ (hD _ _ ⟨p, _, rfl, SqL.of e, fun q2 h2 => ?_⟩))
  rw [e2]
  have s2 := same_new h2 (.lst (z2.map V.str))
  have f2 : upd H1 q2 (.lst (z2.map V.str)) q2 = some (.lst (z2.map V.str)) := upd_same
  have f1 := s2 _ _ f1
  generalize upd H1 q2 (.lst (z2.map V.str)) = H2 at s2 f1 f2 ⊢
  have m1 := L1.many
  have m2 := L2.many
  refine .inl ⟨_, _, _, _, rfl, rfl, f1, f2, ?_, fun nw hnw => ?_⟩
  · rw [List.length_map, List.length_map]
    exact Nat.le_trans (show z1.length + z2.length ≤ 2000000 by omega) (by decide)
  · exact k nw (z1 ++ z2) _ ((s1.trans s2).trans (same_new hnw _)) (by rw [upd_same, List.map_append]) (L1.app L2)
def oddL : List Str := ["", "0", "00", "07", "7", "8", "-0", "-1", "63", "64", "-63", "-64", "9999", "10000", "-10000", "-10001", "-", "ghls", "hg", "g", "gg", "put", "get", "end", "gate", "100000"]
abbrev s_law_spoilt : Stmt := top 49
abbrev N_law_spoilt : List Str := ["_law_row_here", "_law_text", "_law_way", "_law_at", "_law_signs", "_law_sign", "_law_lines", "_law_k", "_law_words", "_law_j", "_law_odd"]
abbrev P_law_spoilt : List Str := ["_law_row_here", "_law_text"]
theorem sc_law_spoilt : FnScope N_law_spoilt P_law_spoilt (defScope s_law_spoilt) := ⟨rfl, rfl, rfl, by decide +kernel, rfl, by decide +kernel, by decide +kernel⟩
section
variable {P : Program} {w : World} {K : PySem.W.Frag} {mg : Str → Option Value} {base : Heap}
theorem ok_spoilt {f : Addr} {fd : FuncData} (F : Fun K "_law_spoilt" "_law_spoilt" s_law_spoilt f fd) (T : Tx mg) (D_law_taken : Df P w K mg base 1 "_law_taken" P_law_taken [] (spTaken K)) : FnOk P w K mg base CX0 2 f fd P_law_spoilt (spSpoilt K) := by
  have sc := sc_law_spoilt
  refine F.ok sc (fun vs H Q E h => ?_) (fun cdv A outer s H vs Q E hr h => ?_)
  · obtain ⟨R, t, rfl, _⟩ := h
    rfl
  obtain ⟨R, t, rfl, row, tt, tl1, k⟩ := h
  have hu := hu_of hr
  have hu64 := hr.units
  refine ⟨_, ((pss_cons (ps_set (i := 2) sc.nd rfl (by first | exact Or.inl rfl | exact Or.inr rfl) (qcall D_law_taken (by first | exact hr | exact hr.mono (by omega)) (pa_cons (qv 0) (pa_cons pe_int pa_nil))))
  (pss_cons (ps_set (i := 3) sc.nd rfl (by first | exact Or.inl rfl | exact Or.inr rfl) (qcall D_law_taken (by first | exact hr | exact hr.mono (by omega)) (pa_cons (qv 0) (pa_cons (pe_op (oq_add K) (pe_callB (cq_len K) (by rfl) T.len (by decide +kernel) (pa_cons (qv 1) pa_nil)) pe_int) pa_nil))))
  (pss_cons (ps_set (i := 4) sc.nd rfl (by first | exact Or.inl rfl | exact Or.inr rfl) pe_str)
  (pss_cons (ps_set (i := 5) sc.nd rfl (by first | exact Or.inl rfl | exact Or.inr rfl) (pe_ix (iq K hu) (qv 4) (qcall D_law_taken (by first | exact hr | exact hr.mono (by omega)) (pa_cons (qv 0) (pa_cons (pe_callB (cq_len K) (by rfl) T.len (by decide +kernel) (pa_cons (qv 4) pa_nil)) pa_nil))) (fun _ _ => rfl)))
  (pss_cons (ps_if (pt_cmpR oq_lt (qv 2) pe_int (nomark _))
  (pss_one (ps_ret (pe_op (oq_add K) (pe_op (oq_add K) (pe_slice sq_str (qv 1) po_none (po_some (qv 3))) (pe_ix (iq K hu) (pe_lst (pa_cons (qv 5) (pa_cons pe_str (pa_cons (qv 5) pa_nil)))) (qv 2) (fun _ _ => rfl))) (pe_slice sq_str (qv 1) (po_some (pe_op (oq_add K) (qv 3) (pe_callTy call_int1 (by rfl) T.int (by decide +kernel) (pa_cons (pe_cmpR oq_gt (qv 2) pe_int (nomark _)) pa_nil)))) po_none))))
  pss_nil)
  (pss_cons (ps_set (i := 6) sc.nd rfl (by first | exact Or.inl rfl | exact Or.inr rfl) (pe_split (qv 1) pe_str))
  (pss_cons (ps_set (i := 7) sc.nd rfl (by first | exact Or.inl rfl | exact Or.inr rfl) (qcall D_law_taken (by first | exact hr | exact hr.mono (by omega)) (pa_cons (qv 0) (pa_cons (pe_callB (cq_len K) (by rfl) T.len (by decide +kernel) (pa_cons (qv 6) pa_nil)) pa_nil))))
  (pss_cons (ps_if (pt_cmpR oq_lt (qv 2) pe_int (nomark _))
  (pss_one (ps_ret (pe_join pe_str (pe_ix (iq K hu) (pe_lst (pa_cons (pe_op (oq_add K) (pe_slice (sq_list K) (qv 6) po_none (po_some (qv 7))) (pe_slice (sq_list K) (qv 6) (po_some (pe_op (oq_add K) (qv 7) pe_int)) po_none)) (pa_cons (pe_op (oq_add K) (pe_slice (sq_list K) (qv 6) po_none (po_some (pe_op (oq_add K) (qv 7) pe_int))) (pe_slice (sq_list K) (qv 6) (po_some (qv 7)) po_none)) (pa_cons (pe_op (oq_add K) (pe_slice (sq_list K) (qv 6) (po_some (qv 7)) po_none) (pe_slice (sq_list K) (qv 6) po_none (po_some (qv 7)))) pa_nil)))) (pe_op oq_sub (qv 2) pe_int) (fun _ _ => rfl)))))
  pss_nil)
  (pss_cons (ps_set (i := 8) sc.nd rfl (by first | exact Or.inl rfl | exact Or.inr rfl) (pe_split (pe_ix (iq K hu) (qv 6) (qv 7) (fun _ _ => rfl)) pe_str))
  (pss_cons (ps_set (i := 9) sc.nd rfl (by first | exact Or.inl rfl | exact Or.inr rfl) (qcall D_law_taken (by first | exact hr | exact hr.mono (by omega)) (pa_cons (qv 0) (pa_cons (pe_callB (cq_len K) (by rfl) T.len (by decide +kernel) (pa_cons (qv 8) pa_nil)) pa_nil))))
  (pss_cons (ps_set (i := 10) sc.nd rfl (by first | exact Or.inl rfl | exact Or.inr rfl) (pe_lst (pa_lits [.str "", .str "0", .str "00", .str "07", .str "7", .str "8", .str "-0", .str "-1", .str "63", .str "64", .str "-63", .str "-64", .str "9999", .str "10000", .str "-10000", .str "-10001"] (by decide +kernel))))
  (pss_cons (ps_set (i := 10) sc.nd rfl (by first | exact Or.inl rfl | exact Or.inr rfl) (pe_op (oq_add K) (qv 10) (pe_lst (pa_lits [.str "-", .str "ghls", .str "hg", .str "g", .str "gg", .str "put", .str "get", .str "end", .str "gate", .str "100000"] (by decide +kernel)))))
  (pss_cons (ps_set (i := 8) sc.nd rfl (by first | exact Or.inl rfl | exact Or.inr rfl) (pe_op (oq_add K) (pe_op (oq_add K) (pe_slice (sq_list K) (qv 8) po_none (po_some (qv 9))) (pe_ix (iq K hu) (pe_lst (pa_cons (pe_lst pa_nil) (pa_cons (pe_op oq_mul (pe_lst (pa_cons (pe_ix (iq K hu) (qv 8) (qv 9) (fun _ _ => rfl)) pa_nil)) pe_int) (pa_cons (pe_lst (pa_cons (pe_ix (iq K hu) (qv 10) (qcall D_law_taken (by first | exact hr | exact hr.mono (by omega)) (pa_cons (qv 0) (pa_cons pe_int pa_nil))) (fun _ _ => rfl)) pa_nil)) pa_nil)))) (pe_op oq_sub (qv 2) pe_int) (fun _ _ => rfl))) (pe_slice (sq_list K) (qv 8) (po_some (pe_op (oq_add K) (qv 9) pe_int)) po_none)))
  (pss_one (ps_ret (pe_join pe_str (pe_op (oq_add K) (pe_op (oq_add K) (pe_slice (sq_list K) (qv 6) po_none (po_some (qv 7))) (pe_lst (pa_cons (pe_join pe_str (qv 8)) pa_nil))) (pe_slice (sq_list K) (qv 6) (po_some (pe_op (oq_add K) (qv 7) pe_int)) po_none)))))))))))))))))) : PSs _ (_ :: _) _), ?_⟩
  refine ⟨R, 9, rfl, row, by decide, by decide, fun way H1 w0 w9 o1 => ?_⟩
  have ht : t.length ≤ sizeLine := Nat.le_trans tl1 (by decide)
  refine ⟨ht, R, _, rfl, o1.row, by omega, by omega, fun at_ H2 a0 a1 o2 => ?_⟩
  have o2 := o1.trans o2
  have hsg : 0 < (Str.ofString "0123456789 \n-+_.:,;!?#&()*/<=>\x40[]^{|}~$abcdefghijklmnopqrstuvwxyzABCDEFGHIJKLMNOPQRSTUVWXYZ").length ∧ (Str.ofString "0123456789 \n-+_.:,;!?#&()*/<=>\x40[]^{|}~$abcdefghijklmnopqrstuvwxyzABCDEFGHIJKLMNOPQRSTUVWXYZ").length ≤ 1000 := by decide +kernel
  have hst : ((Str.ofString "0123456789 \n-+_.:,;!?#&()*/<=>\x40[]^{|}~$abcdefghijklmnopqrstuvwxyzABCDEFGHIJKLMNOPQRSTUVWXYZ").cps.toList.all fun c => decide (c < 1114112)) = true := by decide +kernel
  generalize Str.ofString "0123456789 \n-+_.:,;!?#&()*/<=>\x40[]^{|}~$abcdefghijklmnopqrstuvwxyzABCDEFGHIJKLMNOPQRSTUVWXYZ" = sg at hsg hst
  obtain ⟨sg0, sg1⟩ := hsg
  refine ⟨Nat.le_of_lt (small1000 sg1), R, _, rfl, o2.row, by omega, by omega, fun g H3 g0 g1 o3 => ?_⟩
  have o3 := o2.trans o3
  obtain ⟨c, ec⟩ : ∃ c, sg.cps.toList[g.toNat]? = some c := ⟨_, List.getElem?_eq_getElem (by show g.toNat < sg.cps.toList.length; rw [Array.length_toList]; show g.toNat < sg.length; omega)⟩
  have hc : c < 1114112 := of_decide_eq_true (List.all_eq_true.mp hst c (List.mem_of_getElem? ec))
  refine ⟨Nat.le_of_lt (small1000 sg1), c, (by rw [show g = ((g.toNat : Nat) : Int) by omega]; exact atI_nat ec), ?_⟩
  refine ⟨_, rfl, ?_⟩
  by_cases c3 : way < 3
  · refine iteT' (decide_eq_true c3) ?_
    refine ⟨at_, rfl, ht, ?_⟩
    refine ⟨(by decide : 3 ≤ sizeLine), fun l hl => ?_⟩
    have o4 := o3.new hl (.lst [V.str ⟨#[c]⟩, V.str "", V.str ⟨#[c]⟩])
    obtain ⟨zz, ez, zt, zl⟩ : ∃ zz : Str, atI [V.str ⟨#[c]⟩, V.str "", V.str ⟨#[c]⟩] way = some (.str zz) ∧ TOk zz ∧ zz.length ≤ 1 := by
      have ok1 : TOk ⟨#[c]⟩ := fun d hd => by
        have : d = c := by simpa [tl] using hd
        rw [this]; exact hc
      obtain rfl | rfl | rfl : way = 0 ∨ way = 1 ∨ way = 2 := by omega
      · exact ⟨_, rfl, ok1, Nat.le_refl _⟩
      · refine ⟨Str.ofString "", rfl, fun d hd => ?_, by decide +kernel⟩
        have hd : d ∈ tl (Str.ofString "") := hd
        rw [show tl (Str.ofString "") = [] by decide +kernel] at hd
        cases hd
      · exact ⟨_, rfl, ok1, Nat.le_refl _⟩
    refine .inl ⟨_, _, SqL.of upd_same, ez, ?_⟩
    have l1 := Txt.slice_le t none (some at_)
    refine ⟨small_le (by omega), ?_⟩
    refine .inr ⟨_, rfl, ?_⟩
    refine ⟨_, rfl, ht, ?_⟩
    have l2 := Txt.slice_le t (some (at_ + if decide (0 < way) = true then 1 else 0)) none
    have la : (Txt.slice t none (some at_) ++ zz).length = (Txt.slice t none (some at_)).length + zz.length := PySem.Str.length_append _ _
    refine ⟨small_le (by omega), ?_⟩
    refine k _ _ o4 ((TOk.app (TOk.slice tt _ _) zt).app (TOk.slice tt _ _)) ?_
    rw [PySem.Str.length_append]
    omega
  refine iteF' (decide_eq_false c3) ?_
  refine ⟨⟨_, rfl⟩, _, _, rfl, rfl, by decide +kernel, small_le (show t.length + 2 ≤ 1000000 by omega), fun p hp => ?_⟩
  have e0 : Txt.split t "\n" = linesOf t := rfl
  rw [e0]
  have LL : LOk (t.length + 1) (linesOf t) := LOk.cut tt line_ne line_k
  have lne : linesOf t ≠ [] := cut_ne line_ne line_k
  generalize linesOf t = ls at LL lne ⊢
  have o4 := o3.new hp (.lst (ls.map V.str))
  have ep : upd H3 p (.lst (ls.map V.str)) p = some (.lst (ls.map V.str)) := upd_same
  have nR : p ≠ R := fun z => by
    obtain ⟨ys, er⟩ := o3.row.lst
    rw [z, er] at hp
    cases hp
  generalize upd H3 p (.lst (ls.map V.str)) = H4 at o4 ep ⊢
  have lm := LL.many
  have l0 : 0 < ls.length := List.length_pos_iff.mpr lne
  refine .inl ⟨_, SqL.of ep, R, _, rfl, o4.row, (by rw [List.length_map]; omega), (by rw [List.length_map]; omega), fun kk H5 k0 k1 o5 => ?_⟩
  have ep := o5.at ep nR
  have o5 := o4.trans o5
  rw [List.length_map] at k1
  refine ⟨_, rfl, ?_⟩
  have LL6 : t.length + 1 ≤ 1000000 := by omega
  have jn : (Str.ofString "\n").length ≤ 1 := by decide +kernel
  have tn : TOk (Str.ofString "\n") := fun d hd => by
    rw [tl_line] at hd
    rw [List.mem_singleton.mp hd]
    decide
  by_cases c6 : way < 6
  · refine iteT' (decide_eq_true c6) ?_
    refine ⟨⟨_, rfl⟩, ?_⟩
    refine two_cuts (a := none) (b := some kk) (c := some (kk + 1)) (d := none) (fun _ _ h => h) (fun _ _ h => h) (fun _ _ h => ⟨kk, rfl, h⟩) (fun _ _ h => ⟨_, rfl, h⟩) (fun _ _ h => h) ep LL LL6 (fun q1 z1 Ha sa ea La => ?_)
    have ep := sa _ _ ep
    refine two_cuts (a := none) (b := some (kk + 1)) (c := some kk) (d := none) (fun _ _ h => h) (fun _ _ h => h) (fun _ _ h => ⟨_, rfl, h⟩) (fun _ _ h => ⟨kk, rfl, h⟩) (fun _ _ h => h) ep LL LL6 (fun q2 z2 Hb sb eb Lb => ?_)
    have ep := sb _ _ ep
    refine two_cuts (a := some kk) (b := none) (c := none) (d := some kk) (fun _ _ h => h) (fun _ _ h => ⟨kk, rfl, h⟩) (fun _ _ h => h) (fun _ _ h => h) (fun _ _ h => ⟨kk, rfl, h⟩) ep LL LL6 (fun q3 z3 Hc sc' ec' Lc => ?_)
    refine ⟨(by decide : 3 ≤ sizeLine), fun lq hlq => ?_⟩
    have sd := same_new hlq (.lst [V.ref q1, V.ref q2, V.ref q3])
    have s5 := ((sa.trans sb).trans sc').trans sd
    have ed : upd Hc lq (.lst [V.ref q1, V.ref q2, V.ref q3]) lq = some (.lst [V.ref q1, V.ref q2, V.ref q3]) := upd_same
    have ea := sd _ _ (sc' _ _ (sb _ _ ea))
    have eb := sd _ _ (sc' _ _ eb)
    have ec' := sd _ _ ec'
    generalize upd Hc lq (.lst [V.ref q1, V.ref q2, V.ref q3]) = Hd at s5 ed ea eb ec' ⊢
    obtain ⟨q, zs, eq, ezs, Lz⟩ : ∃ q zs, atI [V.ref q1, V.ref q2, V.ref q3] (way - 3) = some (.ref q) ∧ Hd q = some (.lst (zs.map V.str)) ∧ LOk (t.length + 1 + (t.length + 1)) zs := by
      obtain rfl | rfl | rfl : way = 3 ∨ way = 4 ∨ way = 5 := by omega
      · exact ⟨q1, z1, rfl, ea, La⟩
      · exact ⟨q2, z2, rfl, eb, Lb⟩
      · exact ⟨q3, z3, rfl, ec', Lc⟩
    refine .inl ⟨_, _, SqL.of ed, eq, ?_⟩
    have J := Lz.join tn jn
    refine ⟨_, q, zs, rfl, rfl, .inl (SqL.of ezs), Nat.le_trans (Lz.sum jn) (by omega), ?_⟩
    exact k _ _ (o5.same s5) J.1 (by have := J.2; omega)
  refine iteF' (decide_eq_false c6) ?_
  obtain ⟨l, el⟩ : ∃ l, ls[kk.toNat]? = some l := ⟨_, List.getElem?_eq_getElem (by omega)⟩
  have hl := List.mem_of_getElem? el
  have ll : l.length ≤ t.length := by
    have a := lenW_mem hl
    have b := LL.1
    omega
  refine .inl ⟨_, .str l, SqL.of ep, (by rw [show kk = ((kk.toNat : Nat) : Int) by omega]; exact atI_nat (by rw [List.getElem?_map, el]; rfl)), ?_⟩
  refine ⟨⟨_, rfl⟩, _, _, rfl, rfl, by decide +kernel, small_le (show l.length + 2 ≤ 1000000 by omega), fun p2 hp2 => ?_⟩
  have e0 : Txt.split l " " = wordsOf l := rfl
  rw [e0]
  have LW : LOk (t.length + 1) (wordsOf l) := by
    have q : LOk (l.length + 1) (wordsOf l) := LOk.cut (LL.2 l hl) blank_ne blank_k
    exact ⟨Nat.le_trans q.1 (by omega), q.2⟩
  have wne : wordsOf l ≠ [] := cut_ne blank_ne blank_k
  generalize wordsOf l = ws at LW wne ⊢
  have n2 := o5.row.ne hp2
  have o6 := o5.new hp2 (.lst (ws.map V.str))
  have ep := same_new hp2 (.lst (ws.map V.str)) _ _ ep
  have ew : upd H5 p2 (.lst (ws.map V.str)) p2 = some (.lst (ws.map V.str)) := upd_same
  generalize upd H5 p2 (.lst (ws.map V.str)) = H6 at o6 ep ew ⊢
  have wm := LW.many
  have w0 : 0 < ws.length := List.length_pos_iff.mpr wne
  refine .inl ⟨_, SqL.of ew, R, _, rfl, o6.row, (by rw [List.length_map]; omega), (by rw [List.length_map]; omega), fun j H7 j0 j1 o7 => ?_⟩
  have ep := o7.at ep nR
  have ew := o7.at ew n2
  have o7 := o6.trans o7
  rw [List.length_map] at j1
  obtain ⟨wj, ewj⟩ : ∃ wj, ws[j.toNat]? = some wj := ⟨_, List.getElem?_eq_getElem (by omega)⟩
  have awj : atI (ws.map V.str) j = some (.str wj) := by
    rw [show j = ((j.toNat : Nat) : Int) by omega]
    exact atI_nat (by rw [List.getElem?_map, ewj]; rfl)
  have hwj := List.mem_of_getElem? ewj
  have lwj : wj.length ≤ t.length := by
    have a := lenW_mem hwj
    have b := LW.1
    omega
  refine ⟨(by decide : 16 ≤ sizeLine), fun lo hlo => ?_⟩
  have nlo := o7.row.ne hlo
  have slo := same_new hlo (.lst ((oddL.take 16).map V.str))
  have elo : upd H7 lo (.lst ((oddL.take 16).map V.str)) lo = some (.lst ((oddL.take 16).map V.str)) := upd_same
  have ep := slo _ _ ep
  have ew := slo _ _ ew
  have o8 := o7.same slo
  obtain ⟨H8, e8⟩ : ∃ H8, upd H7 lo (.lst ((oddL.take 16).map V.str)) = H8 := ⟨_, rfl⟩
  have g8 : upd H7 lo (.lst [V.str "", V.str "0", V.str "00", V.str "07", V.str "7", V.str "8", V.str "-0", V.str "-1", V.str "63", V.str "64", V.str "-63", V.str "-64", V.str "9999", V.str "10000", V.str "-10000", V.str "-10001"]) = H8 := e8
  rw [e8] at ep ew o8 elo slo
  rw [g8]
  refine ⟨(by decide : 10 ≤ sizeLine), fun l2 hl2 => ?_⟩
  have s9 := same_new hl2 (.lst ((oddL.drop 16).map V.str))
  have el2 : upd H8 l2 (.lst ((oddL.drop 16).map V.str)) l2 = some (.lst ((oddL.drop 16).map V.str)) := upd_same
  have ep := s9 _ _ ep
  have ew := s9 _ _ ew
  have elo := s9 _ _ elo
  have o9 := o8.same s9
  obtain ⟨H9, e9⟩ : ∃ H9, upd H8 l2 (.lst ((oddL.drop 16).map V.str)) = H9 := ⟨_, rfl⟩
  have g9 : upd H8 l2 (.lst [V.str "-", V.str "ghls", V.str "hg", V.str "g", V.str "gg", V.str "put", V.str "get", V.str "end", V.str "gate", V.str "100000"]) = H9 := e9
  rw [e9] at ep ew o9 elo el2 s9
  rw [g9]
  refine .inl ⟨_, _, _, _, rfl, rfl, elo, el2, (by decide +kernel), fun od hod => ?_⟩
  rw [← List.map_append, List.take_append_drop]
  have nod := o9.row.ne hod
  have s10 := same_new hod (.lst (oddL.map V.str))
  have eod : upd H9 od (.lst (oddL.map V.str)) od = some (.lst (oddL.map V.str)) := upd_same
  have ep := s10 _ _ ep
  have ew := s10 _ _ ew
  have o10 := o9.same s10
  generalize upd H9 od (.lst (oddL.map V.str)) = H10 at s10 eod ep ew o10 ⊢
  clear elo el2 e8 g8 e9 g9 s9 slo
  -- the words ahead
  obtain ⟨z1, ez1, L1⟩ := cut_strs LW none (some j)
  refine ⟨j, rfl, p2, _, rfl, SqL.of ew, fun q1 h1 => ?_⟩
  rw [ez1]
  have nq1 := o10.row.ne h1
  have s11 := same_new h1 (.lst (z1.map V.str))
  have eq1 : upd H10 q1 (.lst (z1.map V.str)) q1 = some (.lst (z1.map V.str)) := upd_same
  have ep := s11 _ _ ep
  have ew := s11 _ _ ew
  have eod := s11 _ _ eod
  have o11 := o10.same s11
  generalize upd H10 q1 (.lst (z1.map V.str)) = H11 at eq1 eod ep ew o11 ⊢
  refine ⟨(by decide : 0 ≤ sizeLine), fun n1 hn1 => ?_⟩
  have nn1 := o11.row.ne hn1
  have s12 := same_new hn1 (.lst [])
  have en1 : upd H11 n1 (.lst []) n1 = some (.lst (([] : List Str).map V.str)) := upd_same
  have ep := s12 _ _ ep
  have ew := s12 _ _ ew
  have eod := s12 _ _ eod
  have eq1 := s12 _ _ eq1
  have o12 := o11.same s12
  generalize upd H11 n1 (.lst []) = H12 at en1 eq1 eod ep ew o12 ⊢
  refine .inl ⟨_, _, SqL.of ew, awj, ?_⟩
  refine ⟨(by decide : 1 ≤ sizeLine), fun m1 hm1 => ?_⟩
  refine ⟨_, _, _, rfl, rfl, upd_same, by decide, by decide, (by decide : 2 ≤ sizeLine), fun m2 hm2 => ?_⟩
  have nm2 : m2 ≠ R := (o12.same (same_new hm1 (.lst [V.str wj]))).row.ne hm2
  have s13 := (same_new hm1 (.lst [V.str wj])).trans (same_new hm2 (.lst (List.replicate (2 : Int).toNat [V.str wj]).flatten))
  have em2 : upd (upd H12 m1 (.lst [V.str wj])) m2 (.lst (List.replicate (2 : Int).toNat [V.str wj]).flatten) m2 = some (.lst (([wj, wj] : List Str).map V.str)) := upd_same
  have ep := s13 _ _ ep
  have ew := s13 _ _ ew
  have eod := s13 _ _ eod
  have eq1 := s13 _ _ eq1
  have en1 := s13 _ _ en1
  have o13 := o12.same s13
  generalize upd (upd H12 m1 (.lst [V.str wj])) m2 (.lst (List.replicate (2 : Int).toNat [V.str wj]).flatten) = H13 at em2 en1 eq1 eod ep ew o13 ⊢
  refine ⟨R, 26, rfl, o13.row, by decide, by decide, fun g2 H14 g20 g21 o14 => ?_⟩
  have ep := o14.at ep nR
  have ew := o14.at ew n2
  have eod := o14.at eod nod
  have eq1 := o14.at eq1 nq1
  have en1 := o14.at en1 nn1
  have em2 := o14.at em2 nm2
  have o14 := o13.trans o14
  obtain ⟨zo, ezo⟩ : ∃ zo, oddL[g2.toNat]? = some zo := ⟨_, List.getElem?_eq_getElem (show g2.toNat < 26 by omega)⟩
  have azo : atI (oddL.map V.str) g2 = some (.str zo) := by
    rw [show g2 = ((g2.toNat : Nat) : Int) by omega]
    exact atI_nat (by rw [List.getElem?_map, ezo]; rfl)
  have hodd : oddL.all (fun z => decide (z.length ≤ 7) && z.cps.toList.all fun c => decide (c < 1114112)) = true := by decide +kernel
  have hzo := Bool.and_eq_true_iff.mp (List.all_eq_true.mp hodd zo (List.mem_of_getElem? ezo))
  have tzo : TOk zo := fun d hd => of_decide_eq_true (List.all_eq_true.mp hzo.2 d hd)
  have lzo := of_decide_eq_true hzo.1
  refine .inl ⟨_, _, SqL.of eod, azo, ?_⟩
  refine ⟨(by decide : 1 ≤ sizeLine), fun m3 hm3 => ?_⟩
  refine ⟨(by decide : 3 ≤ sizeLine), fun lq hlq => ?_⟩
  have s15 := (same_new hm3 (.lst [V.str zo])).trans (same_new hlq (.lst [V.ref n1, V.ref m2, V.ref m3]))
  have em3 : upd (upd H14 m3 (.lst [V.str zo])) lq (.lst [V.ref n1, V.ref m2, V.ref m3]) m3 = some (.lst (([zo] : List Str).map V.str)) := same_new hlq (.lst [V.ref n1, V.ref m2, V.ref m3]) _ _ upd_same
  have elq : upd (upd H14 m3 (.lst [V.str zo])) lq (.lst [V.ref n1, V.ref m2, V.ref m3]) lq = some (.lst [V.ref n1, V.ref m2, V.ref m3]) := upd_same
  have ep := s15 _ _ ep
  have ew := s15 _ _ ew
  have eq1 := s15 _ _ eq1
  have en1 := s15 _ _ en1
  have em2 := s15 _ _ em2
  have o15 := o14.same s15
  generalize upd (upd H14 m3 (.lst [V.str zo])) lq (.lst [V.ref n1, V.ref m2, V.ref m3]) = H15 at em3 elq em2 en1 eq1 ep ew o15 ⊢
  obtain ⟨q, zs, eq, ezs, Lz⟩ : ∃ q zs, atI [V.ref n1, V.ref m2, V.ref m3] (way - 6) = some (.ref q) ∧ H15 q = some (.lst (zs.map V.str)) ∧ LOk (2 * t.length + 8) zs := by
    obtain rfl | rfl | rfl : way = 6 ∨ way = 7 ∨ way = 8 := by omega
    · exact ⟨n1, [], rfl, en1, LOk.nil⟩
    · have L := LOk.two (LW.2 wj hwj) lwj
      exact ⟨m2, [wj, wj], rfl, em2, Nat.le_trans L.1 (by omega), L.2⟩
    · have L := LOk.one tzo lzo
      exact ⟨m3, [zo], rfl, em3, Nat.le_trans L.1 (by omega), L.2⟩
  refine .inl ⟨_, _, SqL.of elq, eq, ?_⟩
  have c1 := L1.many
  have c2 := Lz.many
  refine .inl ⟨_, _, _, _, rfl, rfl, eq1, ezs, (by rw [List.length_map, List.length_map]; exact small_le (show z1.length + zs.length ≤ 1000000 by omega)), fun nw hnw => ?_⟩
  rw [← List.map_append]
  have L2_ := L1.app Lz
  have s16 := same_new hnw (.lst ((z1 ++ zs).map V.str))
  have enw : upd H15 nw (.lst ((z1 ++ zs).map V.str)) nw = some (.lst ((z1 ++ zs).map V.str)) := upd_same
  have ep := s16 _ _ ep
  have ew := s16 _ _ ew
  have o16 := o15.same s16
  generalize upd H15 nw (.lst ((z1 ++ zs).map V.str)) = H16 at enw ep ew o16 ⊢
  generalize z1 ++ zs = z2 at enw L2_
  obtain ⟨z3, ez3, L3⟩ := cut_strs LW (some (j + 1)) none
  refine ⟨_, rfl, p2, _, rfl, SqL.of ew, fun q2 h2 => ?_⟩
  rw [ez3]
  have s17 := same_new h2 (.lst (z3.map V.str))
  have eq2 : upd H16 q2 (.lst (z3.map V.str)) q2 = some (.lst (z3.map V.str)) := upd_same
  have ep := s17 _ _ ep
  have enw := s17 _ _ enw
  have o17 := o16.same s17
  generalize upd H16 q2 (.lst (z3.map V.str)) = H17 at eq2 enw ep o17 ⊢
  have c3 := L2_.many
  have c4 := L3.many
  refine .inl ⟨_, _, _, _, rfl, rfl, enw, eq2, (by rw [List.length_map, List.length_map]; exact small_le (show z2.length + z3.length ≤ 1000000 by omega)), fun nv hnv => ?_⟩
  rw [← List.map_append]
  have L4 := L2_.app L3
  have s18 := same_new hnv (.lst ((z2 ++ z3).map V.str))
  have env : upd H17 nv (.lst ((z2 ++ z3).map V.str)) nv = some (.lst ((z2 ++ z3).map V.str)) := upd_same
  have ep := s18 _ _ ep
  have o18 := o17.same s18
  generalize upd H17 nv (.lst ((z2 ++ z3).map V.str)) = H18 at env ep o18 ⊢
  generalize z2 ++ z3 = z4 at env L4
  have jb : (Str.ofString " ").length ≤ 1 := by decide +kernel
  have tb_ : TOk (Str.ofString " ") := fun d hd => by
    rw [tl_blank] at hd
    rw [List.mem_singleton.mp hd]
    decide
  have J := L4.join tb_ jb
  refine ⟨⟨_, rfl⟩, ?_⟩
  obtain ⟨z5, ez5, L5⟩ := cut_strs LL none (some kk)
  refine ⟨kk, rfl, p, _, rfl, SqL.of ep, fun r1 hr1 => ?_⟩
  rw [ez5]
  have s19 := same_new hr1 (.lst (z5.map V.str))
  have er1 : upd H18 r1 (.lst (z5.map V.str)) r1 = some (.lst (z5.map V.str)) := upd_same
  have ep := s19 _ _ ep
  have env := s19 _ _ env
  have o19 := o18.same s19
  generalize upd H18 r1 (.lst (z5.map V.str)) = H19 at er1 env ep o19 ⊢
  refine ⟨⟨_, rfl⟩, ?_⟩
  refine ⟨_, nv, z4, rfl, rfl, .inl (SqL.of env), Nat.le_trans (L4.sum jb) (by omega), ?_⟩
  generalize Txt.join (Str.ofString " ") z4 = zj at J ⊢
  refine ⟨(by decide : 1 ≤ sizeLine), fun r2 hr2 => ?_⟩
  have s20 := same_new hr2 (.lst [V.str zj])
  have er2 : upd H19 r2 (.lst [V.str zj]) r2 = some (.lst (([zj] : List Str).map V.str)) := upd_same
  have ep := s20 _ _ ep
  have er1 := s20 _ _ er1
  have o20 := o19.same s20
  generalize upd H19 r2 (.lst [V.str zj]) = H20 at er2 er1 ep o20 ⊢
  have L6 := LOk.one J.1 J.2
  have c5 := L5.many
  refine .inl ⟨_, _, _, _, rfl, rfl, er1, er2, (by rw [List.length_map]; exact small_le (show z5.length + 1 ≤ 1000000 by omega)), fun r3 hr3 => ?_⟩
  rw [← List.map_append]
  have L7 := L5.app L6
  have s21 := same_new hr3 (.lst ((z5 ++ [zj]).map V.str))
  have er3 : upd H20 r3 (.lst ((z5 ++ [zj]).map V.str)) r3 = some (.lst ((z5 ++ [zj]).map V.str)) := upd_same
  have ep := s21 _ _ ep
  have o21 := o20.same s21
  generalize upd H20 r3 (.lst ((z5 ++ [zj]).map V.str)) = H21 at er3 ep o21 ⊢
  generalize z5 ++ [zj] = z6 at er3 L7
  obtain ⟨z7, ez7, L8⟩ := cut_strs LL (some (kk + 1)) none
  refine ⟨_, rfl, p, _, rfl, SqL.of ep, fun r4 hr4 => ?_⟩
  rw [ez7]
  have s22 := same_new hr4 (.lst (z7.map V.str))
  have er4 : upd H21 r4 (.lst (z7.map V.str)) r4 = some (.lst (z7.map V.str)) := upd_same
  have er3 := s22 _ _ er3
  have o22 := o21.same s22
  generalize upd H21 r4 (.lst (z7.map V.str)) = H22 at er4 er3 o22 ⊢
  have c6_ := L7.many
  have c7 := L8.many
  refine .inl ⟨_, _, _, _, rfl, rfl, er3, er4, (by rw [List.length_map, List.length_map]; exact small_le (show z6.length + z7.length ≤ 1000000 by omega)), fun r5 hr5 => ?_⟩
  rw [← List.map_append]
  have L9 := L7.app L8
  have s23 := same_new hr5 (.lst ((z6 ++ z7).map V.str))
  have er5 : upd H22 r5 (.lst ((z6 ++ z7).map V.str)) r5 = some (.lst ((z6 ++ z7).map V.str)) := upd_same
  have o23 := o22.same s23
  have J2 := L9.join tn jn
  refine ⟨_, r5, z6 ++ z7, rfl, rfl, .inl (SqL.of er5), Nat.le_trans (L9.sum jn) (by omega), ?_⟩
  exact k _ _ o23 J2.1 (by have := J2.2; omega)
end
end Tm
set_option Elab.async false
set_option linter.all false
set_option maxRecDepth 100000
set_option maxHeartbeats 1000000
namespace L2
open PySem PySem.Spec PyProof.Rows
section
variable {X : Cx}
end
end L2
set_option Elab.async false
set_option linter.all false
set_option maxRecDepth 100000
set_option maxHeartbeats 4000000
namespace L2
open PySem PySem.Spec PyProof.Rows
section
variable {prog : Program} {w : World}
theorem meets_update_dict (d o : Addr) : MeetsIn prog w (Builtin.«dict.update» ⟨[.ref d, .ref o], []⟩) (fun A R s => ∃ (acc more : List (Key × Value)), d ≠ o ∧ (o == sysModules) = false ∧
    s.heap.DictOf (mixKind prog w) d acc ∧ s.heap.DictOf (mixKind prog w) o more ∧ acc.length + more.length ≤ sizeLine ∧
    ∀ h', h'.DictOf (mixKind prog w) d (merged acc more) → Heap.SameBut d s.heap h' → R (.ok (.ret .none)) { s with heap := h' }) := by
  intro A R s ⟨acc, more, hdo, hoS, hd, ho, hln, h⟩
  unfold Builtin.«dict.update»
  refine wpAny_bind ?_
  unfold Builtin.Dict.selfAndRest
  refine wpAny_bind (wpAny_notOrdered_dict hd.typeIs ?_)
  show wpAny _ _ (pure (d, [Value.ref o])) _ _ s
  refine wpAny_pure ?_
  show wpAny _ _ (Builtin.Dict.updateFrom "dict.update" d (.ref o) [] .none) _ _ s
  unfold Builtin.Dict.updateFrom
  refine wpAny_bind (wpAny_typeOf ho.typeIs ?_)
  rw [if_neg (by decide)]
  refine wpAny_bind ?_
  unfold Builtin.Dict.merge
  refine wpAny_bind ?_
  unfold Builtin.Dict.readDirectly
  refine wpAny_bind (wpAny_isInstance ho.typeIs isSubtype_dict_dict ?_)
  simp only [Bool.not_true, Bool.false_eq_true, if_false]
  refine wpAny_bind (wpAny_specialOf ho.typeIs F.slot_dict_iter.lookup (wpAny_pure ?_))
  simp only [beq_self_eq_true, if_true]
  refine wpAny_bind (wpAny_pure ?_)
  refine wpAny_mergeDict (hsz := hln) hdo hoS hd ho fun h' hd' _ hs' => ?_
  show wpAny _ _ (Builtin.Dict.addKeywords d [] >>= _) _ _ _
  exact wpAny_bind (wpAny_pure (wpAny_pure (h h' hd' hs')))
end
section
variable {X : Cx}
theorem mt_updateD : MtR X "dict.update" (fun x xs H Q => ∃ (d a : Addr) (acc kvs : List (Key × V)), x = .ref d ∧ xs = [.ref a] ∧ d ≠ a ∧ H d = some (.dK acc) ∧ H a = some (.dK kvs) ∧ acc.length + kvs.length ≤ sizeLine ∧ Q .non (upd H d (.dK (mergeK acc kvs)))) := by
  intro pins s σ H x xs v us Q I rx rs q
  obtain ⟨d, a, acc, kvs, ex, exs, hne, hd, ha, hsz, q⟩ := q
  subst ex exs
  cases rx
  obtain ⟨u, eu, ru⟩ := vals1 rs
  subst eu
  cases ru
  obtain ⟨z, hsys, vs, relD, dd⟩ := dk_of I.hok hd
  obtain ⟨z2, hsys2, vs2, relD2, dd2⟩ := dk_of I.hok ha
  refine call_meetsIn PySem.F.slot_dict_update dd.typeIs PySem.F.entry_dict_update (PySem.F.args_dict_update_2 _ _) (meets_update_dict d a)
    ⟨vs, vs2, hne, hsys2, dd, dd2, by rw [← relD.length, ← relD2.length]; exact hsz, fun h' dd' hs => ?_⟩
  have he : ∃ q, h'.get? d = some q := let ⟨q, _, _, hq, _⟩ := dd'; ⟨q, hq⟩
  have hlm : (mergeK acc kvs).length ≤ sizeLine := Nat.le_trans (length_mergeK kvs acc) hsz
  refine ⟨.non, upd H d (.dK (mergeK acc kvs)), ?_, rfl, q⟩
  have W := I.write (t' := s.toks) (x := d) (e := d) (by rw [hd]; exact True.intro) (.inl rfl) (fun b u hb q => hs.extBut b u hb q) he (dk_new hlm hsys (KV.merge relD2 relD) dd')
  exact W
end
end L2
set_option Elab.async false
set_option linter.all false
set_option maxRecDepth 100000
set_option maxHeartbeats 1000000
namespace Tm
open PySem L2
theorem pe_lit1 {X : Cx} {e : Expr} {v : V} (h : isC1 e v = true) : PE X e (tC v) := by
  unfold isC1 at h
  split at h
  · cases of_decide_eq_true h; exact pe_int
  · cases of_decide_eq_true h; exact pe_str
  · cases of_decide_eq_true h; exact pe_bl
  · exact pe_non
  · cases h
def isCs : List (Option Expr) → List Expr → List (V × V) → Bool
  | [], [], [] => true
  | some k :: ks, v :: vs, p :: ps => isC1 k p.1 && isC1 v p.2 && isCs ks vs ps
  | _, _, _ => false
theorem isCs_some : ∀ {ks : List (Option Expr)} {vs : List Expr} {ps : List (V × V)}, isCs ks vs ps = true → ks.all (·.isSome) = true ∧ ks.length = vs.length ∧ ks.length = ps.length
  | [], [], [], _ => ⟨rfl, rfl, rfl⟩
  | some k :: ks, v :: vs, p :: ps, h => by
    have h : (isC1 k p.1 && isC1 v p.2 && isCs ks vs ps) = true := h
    obtain ⟨_, h3⟩ := Bool.and_eq_true_iff.mp h
    obtain ⟨a, b, c⟩ := isCs_some h3
    exact ⟨by rw [List.all_cons, a]; rfl, by rw [List.length_cons, List.length_cons, b], by rw [List.length_cons, List.length_cons, c]⟩
  | none :: _, _, _, h => by cases h
  | [], _ :: _, _, h => by cases h
  | [], [], _ :: _, h => by cases h
  | some _ :: _, [], _, h => by cases h
  | some _ :: _, _ :: _, [], h => by cases h
theorem pps_lits {X : Cx} {pos : Pos} : ∀ {ks : List (Option Expr)} {vs : List Expr} {ps : List (V × V)}, isCs ks vs ps = true → PPs X pos ks vs (ps.map fun p => (tC p.1, tC p.2))
  | [], [], [], _ => pps_nil
  | some k :: ks, v :: vs, p :: ps, h => by
    have h : (isC1 k p.1 && isC1 v p.2 && isCs ks vs ps) = true := h
    obtain ⟨h12, h3⟩ := Bool.and_eq_true_iff.mp h
    obtain ⟨h1, h2⟩ := Bool.and_eq_true_iff.mp h12
    exact pps_cons (pe_lit1 h1) (pe_lit1 h2) (pps_lits h3)
  | none :: _, _, _, h => by cases h
  | [], _ :: _, _, h => by cases h
  | [], [], _ :: _, h => by cases h
  | some _ :: _, [], _, h => by cases h
  | some _ :: _, _ :: _, [], h => by cases h
theorem tPairs_lits {σ : St} : ∀ {ps : List (V × V)} {H : Hp} {Q : List (V × V) → Hp → Prop}, Q ps H → tPairs (ps.map fun p => (tC p.1, tC p.2)) σ H Q
  | [], _, _, q => q
  | p :: ps, H, Q, q => by
    show tC p.1 σ H fun x H1 => tC p.2 σ H1 fun y H2 => tPairs (ps.map fun p => (tC p.1, tC p.2)) σ H2 fun ps H3 => Q ((x, y) :: ps) H3
    exact tPairs_lits (ps := ps) (Q := fun l H3 => Q ((p.1, p.2) :: l) H3) q
def tNewD (kvs : List (Key × V)) : TE := fun _ H Q => ∀ p, H p = none → Q (.ref p) (upd H p (.dK kvs))
theorem pe_dispL {X : Cx} {pos : Pos} {keys : List (Option Expr)} {values : List Expr} (kvs : List (Key × V)) (h : isCs keys values (kvs.map fun kv => (kV kv.1, kv.2)) = true) (h1 : 1 ≤ kvs.length) (h15 : kvs.length ≤ 15) : PE X (.Dict keys values pos) (tNewD (mergeK [] kvs)) := by
  obtain ⟨a, b, c⟩ := isCs_some h
  rw [List.length_map] at c
  intro pins s σ H Q I q
  refine pe_disp (pps_lits h) a b (fun z => by rw [z] at c; exact absurd (c ▸ h1) (by decide)) (by omega) pins s σ H Q I ?_
  intro p hp
  refine tPairs_lits ⟨upd_same, kvs, rfl, h15, ?_⟩
  rw [upd_upd]
  exact q p hp
end Tm
set_option Elab.async false
set_option linter.all false
set_option maxRecDepth 100000
set_option maxHeartbeats 1000000
set_option pp.maxSteps 900
set_option pp.deepTerms false
namespace Tm
open PySem L2 TL
def formsL : List (Str × Str) := [("put", "bn"), ("get", "bbo"), ("set", "bob"), ("fewer", "bbt"), ("gate", "bbg"), ("go", "r"), ("if", "br"), ("end", ""), ("add", "bbb"), ("take", "bbb"), ("less", "bbb"), ("same", "bbb"), ("narrow", "bbb"), ("enter", "b"), ("room", "b"), ("shut", "b"), ("say", "b"), ("move", "bb"), ("is", "bb")]
def forms0 : List (Key × V) := (formsL.take 8).map fun p => (.inr p.1, .str p.2)
def formsK : List (Key × V) := formsL.map fun p => (.inr p.1, .str p.2)
def spForms : Sp := fun vs H Q _ => vs = [] ∧ ∀ (d : Addr) (H' : Hp), Same H H' → H d = none → H' d = some (.dK formsK) → Q (.ref d) H'
abbrev s_law_forms : Stmt := top 46
abbrev N_law_forms : List Str := ["_law_forms_here", "_law_word_here"]
abbrev P_law_forms : List Str := []
theorem sc_law_forms : FnScope N_law_forms P_law_forms (defScope s_law_forms) := ⟨rfl, rfl, rfl, by decide +kernel, rfl, by decide +kernel, by decide +kernel⟩
theorem pair_snoc {H H2 : Hp} {ps : List Addr} {ws : List Str} {v : Str} (r : Paired (fun (p : Addr) (kv : Key × V) => H p = some (.tup [kV kv.1, kv.2])) ps (ws.map fun w => (.inr w, .str v))) (s : ∀ p xs, H p = some (.tup xs) → H2 p = some (.tup xs)) {q : Addr} {w : Str} (e : H2 q = some (.tup [.str w, .str v])) :
    Paired (fun (p : Addr) (kv : Key × V) => H2 p = some (.tup [kV kv.1, kv.2])) (ps ++ [q]) ((ws ++ [w]).map fun w => (.inr w, .str v)) := by
  rw [List.map_append]
  exact pair_app (Paired.mapP r fun _ _ z => s _ _ z) (.cons e .nil)
def kvW (ws : List Str) (v : Str) : List (Key × V) := ws.map fun w => (.inr w, .str v)
section
variable {P : Program} {w : World} {K : PySem.W.Frag} {mg : Str → Option Value} {base : Heap}
theorem ok_forms {f : Addr} {fd : FuncData} (F : Fun K "_law_forms" "_law_forms" s_law_forms f fd) (T : Tx mg) : FnOk P w K mg base CX0 1 f fd P_law_forms spForms := by
  have sc := sc_law_forms
  refine F.ok sc (fun vs H Q E h => ?_) (fun cdv A outer s H vs Q E hr h => ?_)
  · obtain ⟨rfl, _⟩ := h
    rfl
  obtain ⟨rfl, k⟩ := h
  have hu := hu_of hr
  have hu64 := hr.units
  refine ⟨_, ((pss_cons (ps_set (i := 0) sc.nd rfl (by first | exact Or.inl rfl | exact Or.inr rfl) (pe_dispL forms0 (by decide +kernel) (by decide) (by decide)))
  (pss_cons (ps_expr (pe_bm PySem.F.plainAttrs_dict PySem.F.slot_dict_update PySem.F.type_dict_update mt_updateD (qv 0) (pa_cons (pe_callTy (call_dictP rfl) (by rfl) T.dict (by decide +kernel) (pa_cons (pe_lc (own := [("_law_word_here", 1)]) (g := gName 1) (by rfl) sc.nd (pi_tup (pe_tup (pa_lits [.str "add", .str "take", .str "less", .str "same", .str "narrow"] (by decide +kernel)))) (blkOk_by (own := [("_law_word_here", 1)]) (N := N_law_forms) (sc := defScope s_law_forms) (by decide +kernel)) (fun _ _ _ _ _ => (pg_name (i := 1) sc.nd rfl (by first | exact Or.inl rfl | exact Or.inr rfl))) (fun _ _ _ _ _ => pts_nil) (fun _ _ _ _ _ => (pe_tup (pa_cons (qv 1) (pa_cons pe_str pa_nil))))) pa_nil)) pa_nil)))
  (pss_cons (ps_expr (pe_bm PySem.F.plainAttrs_dict PySem.F.slot_dict_update PySem.F.type_dict_update mt_updateD (qv 0) (pa_cons (pe_callTy (call_dictP rfl) (by rfl) T.dict (by decide +kernel) (pa_cons (pe_op (oq_add K) (pe_lc (own := [("_law_word_here", 1)]) (g := gName 1) (by rfl) sc.nd (pi_tup (pe_tup (pa_lits [.str "enter", .str "room", .str "shut", .str "say"] (by decide +kernel)))) (blkOk_by (own := [("_law_word_here", 1)]) (N := N_law_forms) (sc := defScope s_law_forms) (by decide +kernel)) (fun _ _ _ _ _ => (pg_name (i := 1) sc.nd rfl (by first | exact Or.inl rfl | exact Or.inr rfl))) (fun _ _ _ _ _ => pts_nil) (fun _ _ _ _ _ => (pe_tup (pa_cons (qv 1) (pa_cons pe_str pa_nil))))) (pe_lst (pa_cons (pe_tup (pa_lits [.str "move", .str "bb"] (by decide +kernel))) (pa_cons (pe_tup (pa_lits [.str "is", .str "bb"] (by decide +kernel))) pa_nil)))) pa_nil)) pa_nil)))
  (pss_one (ps_ret (qv 0)))))) : PSs _ (_ :: _) _), ?_⟩
  intro d0 hd0
  have SS := same_new hd0 (.dK (mergeK [] forms0))
  have ed : upd H d0 (.dK (mergeK [] forms0)) d0 = some (.dK (mergeK [] forms0)) := upd_same
  generalize upd H d0 (.dK (mergeK [] forms0)) = H1 at SS ed
  refine ⟨.inr (.inr (.inl ⟨rfl, .inl ⟨_, ed⟩⟩)), ?_⟩
  refine ⟨(by decide : 5 ≤ sizeLine), fun t0 ht0 => ?_⟩
  have s1 := same_new ht0 (.tup [V.str "add", V.str "take", V.str "less", V.str "same", V.str "narrow"])
  have SS := SS.trans s1
  have ed := s1 _ _ ed
  have et : upd H1 t0 (.tup [V.str "add", V.str "take", V.str "less", V.str "same", V.str "narrow"]) t0 = some (.tup ((["add", "take", "less", "same", "narrow"] : List Str).map V.str)) := upd_same
  generalize upd H1 t0 (.tup [V.str "add", V.str "take", V.str "less", V.str "same", V.str "narrow"]) = H2 at SS ed et
  clear s1
  refine ⟨t0, rfl, ⟨_, SqT.of et⟩, fun D hD => ?_⟩
  refine lc_by (n := 5) (fun i H3 => Same H2 H3 ∧ ∃ ps : List Addr, H3 D = some (.lst (ps.map V.ref)) ∧ Paired (fun (p : Addr) (kv : Key × V) => H3 p = some (.tup [kV kv.1, kv.2])) ps (kvW ((["add", "take", "less", "same", "narrow"] : List Str).take i) "bbb")) ⟨same_new hD _, [], upd_same, .nil⟩ ?_ ?_ ?_ ?_
  · rintro i H3 hi ⟨s2, d2⟩
    exact ⟨_, _, SqT.of (s2 _ _ et), List.getElem?_eq_getElem hi⟩
  · rintro H3 ⟨s2, d2⟩
    exact ⟨_, SqT.of (s2 _ _ et), Nat.le_refl _⟩
  · rintro i H3 v H3' hi ⟨s2, ps, d2, r2⟩ ⟨rfl, hv⟩
    have hv := hv _ (SqT.of (s2 _ _ et))
    rw [List.getElem?_map] at hv
    obtain ⟨z, ez, rfl⟩ := Option.map_eq_some_iff.mp hv
    refine ⟨rfl, ?_⟩
    refine ⟨(by decide : 2 ≤ sizeLine), fun q hq => ?_⟩
    have sq := same_new hq (.tup [V.str z, V.str "bbb"])
    have d3 := sq _ _ d2
    have lp : ps.length ≤ 5 := by
      have := Paired.length r2
      unfold kvW at this
      rw [List.length_map] at this
      rw [this]
      exact List.length_take_le' _ _
    refine ⟨_, d3, ?_, fill_same hD s2 sq, ps ++ [q], ?_, ?_⟩
    · rw [List.length_map]
      exact small1000 (by omega)
    · rw [upd_same, List.map_append]
      rfl
    · rw [List.take_succ, ez]
      have tp : Tups _ _ := Tups.upd (o := .lst (ps.map V.ref ++ [.ref q])) (soft_lst d3)
      refine pair_snoc r2 (fun p xs e => tp _ _ (sq _ _ e)) ?_
      exact tp _ _ upd_same
  rintro H3 ⟨s2, ps, dD, r2⟩
  have SS := SS.trans s2
  have ed := s2 _ _ ed
  rw [show (["add", "take", "less", "same", "narrow"] : List Str).take 5 = (["add", "take", "less", "same", "narrow"] : List Str) from rfl] at r2
  clear et ht0 hD s2
  refine ⟨D, ps, _, rfl, SqL.of dD, Paired.mapP r2 fun _ _ z => SqT.of z, fun p2 hp2 => ?_⟩
  have s3 := same_new hp2 (.dK (mergeK [] (kvW ["add", "take", "less", "same", "narrow"] "bbb")))
  have n02 : d0 ≠ p2 := fun z => by rw [← z, ed] at hp2; cases hp2
  refine ⟨d0, p2, _, _, rfl, rfl, n02, s3 _ _ ed, upd_same, by decide +kernel, ?_⟩
  have SS := fill_same hd0 SS s3 (o := .dK (mergeK (mergeK [] forms0) (mergeK [] (kvW ["add", "take", "less", "same", "narrow"] "bbb"))))
  have ed : upd (upd H3 p2 (.dK (mergeK [] (kvW ["add", "take", "less", "same", "narrow"] "bbb")))) d0 (.dK (mergeK (mergeK [] forms0) (mergeK [] (kvW ["add", "take", "less", "same", "narrow"] "bbb")))) d0 = some _ := upd_same
  generalize upd (upd H3 p2 (.dK (mergeK [] (kvW ["add", "take", "less", "same", "narrow"] "bbb")))) d0 (.dK (mergeK (mergeK [] forms0) (mergeK [] (kvW ["add", "take", "less", "same", "narrow"] "bbb")))) = H1 at SS ed
  refine ⟨.inr (.inr (.inl ⟨rfl, .inl ⟨_, ed⟩⟩)), ?_⟩
  refine ⟨(by decide : 4 ≤ sizeLine), fun t0 ht0 => ?_⟩
  have s1 := same_new ht0 (.tup [V.str "enter", V.str "room", V.str "shut", V.str "say"])
  have SS := SS.trans s1
  have ed := s1 _ _ ed
  have et : upd H1 t0 (.tup [V.str "enter", V.str "room", V.str "shut", V.str "say"]) t0 = some (.tup ((["enter", "room", "shut", "say"] : List Str).map V.str)) := upd_same
  generalize upd H1 t0 (.tup [V.str "enter", V.str "room", V.str "shut", V.str "say"]) = H2 at SS ed et
  clear s1
  refine ⟨t0, rfl, ⟨_, SqT.of et⟩, fun D hD => ?_⟩
  refine lc_by (n := 4) (fun i H3 => Same H2 H3 ∧ ∃ ps : List Addr, H3 D = some (.lst (ps.map V.ref)) ∧ Paired (fun (p : Addr) (kv : Key × V) => H3 p = some (.tup [kV kv.1, kv.2])) ps (kvW ((["enter", "room", "shut", "say"] : List Str).take i) "b")) ⟨same_new hD _, [], upd_same, .nil⟩ ?_ ?_ ?_ ?_
  · rintro i H3 hi ⟨s2, d2⟩
    exact ⟨_, _, SqT.of (s2 _ _ et), List.getElem?_eq_getElem hi⟩
  · rintro H3 ⟨s2, d2⟩
    exact ⟨_, SqT.of (s2 _ _ et), Nat.le_refl _⟩
  · rintro i H3 v H3' hi ⟨s2, ps, d2, r2⟩ ⟨rfl, hv⟩
    have hv := hv _ (SqT.of (s2 _ _ et))
    rw [List.getElem?_map] at hv
    obtain ⟨z, ez, rfl⟩ := Option.map_eq_some_iff.mp hv
    refine ⟨rfl, ?_⟩
    refine ⟨(by decide : 2 ≤ sizeLine), fun q hq => ?_⟩
    have sq := same_new hq (.tup [V.str z, V.str "b"])
    have d3 := sq _ _ d2
    have lp : ps.length ≤ 4 := by
      have := Paired.length r2
      unfold kvW at this
      rw [List.length_map] at this
      rw [this]
      exact List.length_take_le' _ _
    refine ⟨_, d3, ?_, fill_same hD s2 sq, ps ++ [q], ?_, ?_⟩
    · rw [List.length_map]
      exact small1000 (by omega)
    · rw [upd_same, List.map_append]
      rfl
    · rw [List.take_succ, ez]
      have tp : Tups _ _ := Tups.upd (o := .lst (ps.map V.ref ++ [.ref q])) (soft_lst d3)
      refine pair_snoc r2 (fun p xs e => tp _ _ (sq _ _ e)) ?_
      exact tp _ _ upd_same
  rintro H3 ⟨s2, ps, dD, r2⟩
  have SS := SS.trans s2
  have ed := s2 _ _ ed
  rw [show (["enter", "room", "shut", "say"] : List Str).take 4 = (["enter", "room", "shut", "say"] : List Str) from rfl] at r2
  clear et ht0 hD s2
  refine ⟨(by decide : 2 ≤ sizeLine), fun m1 hm1 => ?_⟩
  have s1 := same_new hm1 (.tup [V.str "move", V.str "bb"])
  have e1 : upd H3 m1 (.tup [V.str "move", V.str "bb"]) m1 = some (.tup [V.str "move", V.str "bb"]) := upd_same
  refine ⟨(by decide : 2 ≤ sizeLine), fun m2 hm2 => ?_⟩
  have s2 := same_new hm2 (.tup [V.str "is", V.str "bb"])
  have e2 : upd (upd H3 m1 (.tup [V.str "move", V.str "bb"])) m2 (.tup [V.str "is", V.str "bb"]) m2 = some (.tup [V.str "is", V.str "bb"]) := upd_same
  have e1 := s2 _ _ e1
  refine ⟨(by decide : 2 ≤ sizeLine), fun l2 hl2 => ?_⟩
  have s3 := same_new hl2 (.lst [V.ref m1, V.ref m2])
  have e3 : upd (upd (upd H3 m1 (.tup [V.str "move", V.str "bb"])) m2 (.tup [V.str "is", V.str "bb"])) l2 (.lst [V.ref m1, V.ref m2]) l2 = some (.lst [V.ref m1, V.ref m2]) := upd_same
  have e1 := s3 _ _ e1
  have e2 := s3 _ _ e2
  have s13 := (s1.trans s2).trans s3
  generalize upd (upd (upd H3 m1 (.tup [V.str "move", V.str "bb"])) m2 (.tup [V.str "is", V.str "bb"])) l2 (.lst [V.ref m1, V.ref m2]) = H4 at s13 e1 e2 e3
  clear s1 s2 s3
  have dD := s13 _ _ dD
  have ed := s13 _ _ ed
  have SS := SS.trans s13
  have lp : ps.length = 4 := by
    have := Paired.length r2
    exact this
  refine .inl ⟨_, _, _, _, rfl, rfl, dD, e3, by rw [List.length_map, lp]; exact (by decide : 6 ≤ sizeLine), fun nw hnw => ?_⟩
  have s4 := same_new hnw (.lst (ps.map V.ref ++ [V.ref m1, V.ref m2]))
  have r4 : Paired (fun (p : Addr) (kv : Key × V) => upd H4 nw (.lst (ps.map V.ref ++ [V.ref m1, V.ref m2])) p = some (.tup [kV kv.1, kv.2])) (ps ++ [m1, m2]) (kvW ["enter", "room", "shut", "say"] "b" ++ [(.inr "move", .str "bb"), (.inr "is", .str "bb")]) :=
    pair_app (Paired.mapP r2 fun _ _ z => s4 _ _ (s13 _ _ z)) (.cons (s4 _ _ e1) (.cons (s4 _ _ e2) .nil))
  have eN : upd H4 nw (.lst (ps.map V.ref ++ [V.ref m1, V.ref m2])) nw = some (.lst ((ps ++ [m1, m2]).map V.ref)) := by rw [upd_same, List.map_append]; rfl
  have ed := s4 _ _ ed
  have SS := SS.trans s4
  generalize upd H4 nw (.lst (ps.map V.ref ++ [V.ref m1, V.ref m2])) = H5 at r4 eN ed SS
  refine ⟨nw, ps ++ [m1, m2], _, rfl, SqL.of eN, Paired.mapP r4 fun _ _ z => SqT.of z, fun p2 hp2 => ?_⟩
  have s5 := same_new hp2 (.dK (mergeK [] (kvW ["enter", "room", "shut", "say"] "b" ++ [(.inr "move", .str "bb"), (.inr "is", .str "bb")])))
  have n02 : d0 ≠ p2 := fun z => by rw [← z, ed] at hp2; cases hp2
  refine ⟨d0, p2, _, _, rfl, rfl, n02, s5 _ _ ed, upd_same, by decide +kernel, ?_⟩
  refine k d0 _ (fill_same hd0 SS s5) hd0 ?_
  rw [upd_same]
  have e : mergeK (mergeK (mergeK [] forms0) (mergeK [] (kvW ["add", "take", "less", "same", "narrow"] "bbb"))) (mergeK [] (kvW ["enter", "room", "shut", "say"] "b" ++ [(.inr "move", .str "bb"), (.inr "is", .str "bb")])) = formsK := by decide +kernel
  rw [e]
end
end Tm
set_option Elab.async false
set_option linter.all false
set_option maxRecDepth 100000
set_option maxHeartbeats 2000000
set_option pp.maxSteps 900
set_option pp.deepTerms false
namespace Tm
open PySem L2 TL
def soL : List (Str × Str) := [("b", "box"), ("n", "number"), ("o", "far"), ("t", "rights"), ("g", "row or end"), ("r", "row")]
def partV (w k : Str) (rows : Int) : V := if valueB (readV w k) k rows = true then readV w k else .non
def spPart : Sp := fun vs H Q _ => ∃ (w so k : Str) (rows : Int), vs = [.str w, .str so, .int rows] ∧ (so, k) ∈ soL ∧ w.length ≤ 500000 ∧ TOk w ∧ ∀ H', Same H H' → Q (partV w k rows) H'
theorem filt_empty : ∀ l : List Nat, ((l.filter fun c => !figB c).map fun c => (⟨#[c]⟩ : Str)).isEmpty = l.all figB
  | [] => rfl
  | a :: l => by
    rw [List.filter_cons, List.all_cons, ← filt_empty l]
    cases figB a with
    | true => rfl
    | false => rfl
theorem none_back {H H' : Hp} {b : Addr} (s : Same H H') (e : H' b = none) : H b = none := by
  cases h : H b with
  | none => rfl
  | some o => rw [s _ _ h] at e; cases e
theorem bnd_of {H : Hp} {so kd : Str} {rows : Int} {t1 t2 t3 t4 t5 : Addr} (hso : (so, kd) ∈ soL) (ek : ¬ kd = Str.ofString "rights") (e1 : H t1 = some (.tup [V.int 0, V.int 7])) (e2 : H t2 = some (.tup [V.int (0 - 10000), V.int 9999])) (e3 : H t3 = some (.tup [V.int (0 - 63), V.int 63]))
    (e4 : H t4 = some (.tup [V.int 0, V.int rows])) (e5 : H t5 = some (.tup [V.int 0, V.int (rows - 1)])) : ∃ t lo hi, valV [((.inr "b" : Key), V.ref t1), (.inr "n", .ref t2), (.inr "o", .ref t3), (.inr "g", .ref t4), (.inr "r", .ref t5)] (.inr so) = some (.ref t) ∧ H t = some (.tup [.int lo, .int hi]) ∧ ∀ i : Int, valueB (.int i) kd rows = (decide (lo ≤ i) && decide (i ≤ hi)) := by
  unfold soL at hso
  have ne : ∀ {a b : Str}, decide (a = b) = false → ¬ (Sum.inr a : Key) = .inr b := fun h z => sne h (Sum.inr.inj z)
  rcases List.mem_cons.mp hso with h | hso
  · cases h
    exact ⟨t1, _, _, valV_pos rfl, e1, fun i => by unfold valueB; rw [if_pos rfl]; rfl⟩
  rcases List.mem_cons.mp hso with h | hso
  · cases h
    exact ⟨t2, _, _, (valV_neg (ne (by decide +kernel))).trans (valV_pos rfl), e2, fun i => by unfold valueB; rw [if_neg (sne (by decide +kernel)), if_pos rfl]; rfl⟩
  rcases List.mem_cons.mp hso with h | hso
  · cases h
    exact ⟨t3, _, _, (valV_neg (ne (by decide +kernel))).trans ((valV_neg (ne (by decide +kernel))).trans (valV_pos rfl)), e3, fun i => by unfold valueB; rw [if_neg (sne (by decide +kernel)), if_neg (sne (by decide +kernel)), if_pos rfl]; rfl⟩
  rcases List.mem_cons.mp hso with h | hso
  · cases h
    exact absurd rfl ek
  rcases List.mem_cons.mp hso with h | hso
  · cases h
    exact ⟨t4, _, _, (valV_neg (ne (by decide +kernel))).trans ((valV_neg (ne (by decide +kernel))).trans ((valV_neg (ne (by decide +kernel))).trans (valV_pos rfl))), e4, fun i => by unfold valueB; rw [if_neg (sne (by decide +kernel)), if_neg (sne (by decide +kernel)), if_neg (sne (by decide +kernel)), if_neg (sne (by decide +kernel)), if_neg (sne (by decide +kernel))]; rfl⟩
  · cases List.mem_singleton.mp hso
    exact ⟨t5, _, _, (valV_neg (ne (by decide +kernel))).trans ((valV_neg (ne (by decide +kernel))).trans ((valV_neg (ne (by decide +kernel))).trans ((valV_neg (ne (by decide +kernel))).trans (valV_pos rfl)))), e5, fun i => by unfold valueB; rw [if_neg (sne (by decide +kernel)), if_neg (sne (by decide +kernel)), if_neg (sne (by decide +kernel)), if_neg (sne (by decide +kernel)), if_pos rfl]; rfl⟩
abbrev s_law_part : Stmt := top 47
abbrev N_law_part : List Str := ["_law_word_here", "_law_sort", "_law_rows", "_law_size", "_law_number_here", "_law_rights_here", "_law_low", "_law_high", "_law_sign"]
abbrev P_law_part : List Str := ["_law_word_here", "_law_sort", "_law_rows"]
theorem sc_law_part : FnScope N_law_part P_law_part (defScope s_law_part) := ⟨rfl, rfl, rfl, by decide +kernel, rfl, by decide +kernel, by decide +kernel⟩
section
variable {P : Program} {w : World} {K : PySem.W.Frag} {mg : Str → Option Value} {base : Heap}
theorem ok_part {f : Addr} {fd : FuncData} (F : Fun K "_law_part" "_law_part" s_law_part f fd) (T : Tx mg) : FnOk P w K mg base CX0 1 f fd P_law_part spPart := by
  have sc := sc_law_part
  refine F.ok sc (fun vs H Q E h => ?_) (fun cdv A outer s H vs Q E hr h => ?_)
  · obtain ⟨w, so, k, rows, rfl, _⟩ := h
    rfl
  obtain ⟨w, so, kd, rows, rfl, hso, hw, tw, k⟩ := h
  have hu := hu_of hr
  have hu64 := hr.units
  refine ⟨_, ((pss_cons (ps_if (pt_cmpR (oq_eq K hu64) (qv 1) pe_str (nomark _))
  (pss_cons (ps_set (i := 5) sc.nd rfl (by first | exact Or.inl rfl | exact Or.inr rfl) (pe_join pe_str (pe_lc (own := [("_law_sign", 8)]) (g := gName 8) (by rfl) sc.nd (pi_str pe_str) (blkOk_by (own := [("_law_sign", 8)]) (N := N_law_part) (sc := defScope s_law_part) (by decide +kernel)) (fun _ _ _ _ _ => (pg_name (i := 8) sc.nd rfl (by first | exact Or.inl rfl | exact Or.inr rfl))) (fun _ _ _ _ _ => (pts_one (pt_cmpR op_in_sign (qv 8) (qv 0) (by rfl)))) (fun _ _ _ _ _ => (qv 8)))))
  (pss_one (ps_ret (pe_ifExp (PW.pt (pw_and (pt_cmpR (oq_in K) (qv 0) (pe_tup (pa_cons (qv 5) (pa_cons pe_str pa_nil))) (by rfl)) (pw_and1 (pt_cmpR (oq_ne K hu64) (qv 0) pe_str (nomark _))))) (qv 5) pe_non))))
  pss_nil)
  (pss_cons (ps_set (i := 3) sc.nd rfl (by first | exact Or.inl rfl | exact Or.inr rfl) (pe_slice sq_str (qv 0) (po_some (pe_callTy call_int1 (by rfl) T.int (by decide +kernel) (pa_cons (pe_cmpR (oq_eq K hu64) (pe_slice sq_str (qv 0) po_none (po_some pe_int)) pe_str (nomark _)) pa_nil))) po_none))
  (pss_cons (ps_if (PW.pt (pw_or (pt_not (pt_chain oq_le oq_le pe_int (pe_callB (cq_len K) (by rfl) T.len (by decide +kernel) (pa_cons (qv 3) pa_nil)) pe_int)) (pw_or1 (pt_cmpR (oq_ne K hu64) (pe_lc (own := [("_law_sign", 8)]) (g := gName 8) (by rfl) sc.nd (pi_str (qv 3)) (blkOk_by (own := [("_law_sign", 8)]) (N := N_law_part) (sc := defScope s_law_part) (by decide +kernel)) (fun _ _ _ _ _ => (pg_name (i := 8) sc.nd rfl (by first | exact Or.inl rfl | exact Or.inr rfl))) (fun _ _ _ _ _ => (pts_one (pt_cmpR op_notIn_sign (qv 8) pe_str (by rfl)))) (fun _ _ _ _ _ => (qv 8))) (pe_lst pa_nil) (nomark _)))))
  (pss_one (ps_ret pe_non))
  pss_nil)
  (pss_cons (ps_set (i := 4) sc.nd rfl (by first | exact Or.inl rfl | exact Or.inr rfl) (pe_callTy call_int_str (by rfl) T.int (by decide +kernel) (pa_cons (qv 0) pa_nil)))
  (pss_cons (ps_asg (pe_ix (iq K hu) (pe_disp (pps_cons pe_str (pe_tup (pa_lits [.int 0, .int 7] (by decide +kernel))) (pps_cons pe_str (pe_tup (pa_cons (pe_op oq_sub pe_int pe_int) (pa_cons pe_int pa_nil))) (pps_cons pe_str (pe_tup (pa_cons (pe_op oq_sub pe_int pe_int) (pa_cons pe_int pa_nil))) (pps_cons pe_str (pe_tup (pa_cons pe_int (pa_cons (qv 2) pa_nil))) (pps_cons pe_str (pe_tup (pa_cons pe_int (pa_cons (pe_op oq_sub (qv 2) pe_int) pa_nil))) pps_nil))))) (by rfl) (by rfl) (fun z => by cases z) (by decide)) (qv 1) (fun _ _ => rfl)) (pg_tup (by rfl) (pgs_cons (pg_name (i := 6) sc.nd rfl (by first | exact Or.inl rfl | exact Or.inr rfl)) (pgs_cons (pg_name (i := 7) sc.nd rfl (by first | exact Or.inl rfl | exact Or.inr rfl)) pgs_nil))))
  (pss_one (ps_ret (pe_ifExp (PW.pt (pw_and (pt_cmpR (oq_eq K hu64) (pe_callTy cq_str (by rfl) T.str (by decide +kernel) (pa_cons (qv 4) pa_nil)) (qv 0) (nomark _)) (pw_and1 (pt_chain oq_le oq_le (qv 6) (qv 4) (qv 7))))) (qv 4) pe_non)))))))) : PSs _ (_ :: _) _), ?_⟩
  refine ⟨rfl, _, rfl, ?_⟩
  rw [dstr]
  refine ite2 (fun c => ?_) (fun c => ?_)
  · have c := of_decide_eq_true c
    subst c
    have ek : kd = Str.ofString "rights" := by
      have h : ∀ p ∈ soL, p.1 = Str.ofString "t" → p.2 = Str.ofString "rights" := by decide +kernel
      exact h _ hso rfl
    subst ek
    have k := k
    have ly' : (Str.ofString "ghls").cps.size ≤ 1000 := by decide +kernel
    refine ⟨⟨_, rfl⟩, _, rfl, fun D hD => ?_⟩
    refine lc_by (n := (Str.ofString "ghls").cps.size) (fun i H2 => Same H H2 ∧ H2 D = some (.lst ((((Str.ofString "ghls").cps.toList.take i).filter fun c => decide (c ∈ w.cps.toList)).map fun c => V.str ⟨#[c]⟩))) ⟨same_new hD _, upd_same⟩ (fun i H2 hi _ => hi) (fun H2 _ => Nat.le_refl _) ?_ ?_
    · rintro i H2 x H2' hi ⟨o2, hc⟩ ⟨rfl, c, hx, rfl⟩
      refine ⟨rfl, ?_⟩
      refine ⟨c, w, rfl, rfl, _, rfl, ?_⟩
      generalize Str.ofString "ghls" = y at hx hc ly' hi ⊢
      have hx' : y.cps.toList[i]? = some c := by simpa using hx
      have ht : y.cps.toList.take (i + 1) = y.cps.toList.take i ++ [c] := by
        rw [List.take_succ, hx']
        rfl
      have hl : ((y.cps.toList.take i).filter fun c => decide (c ∈ w.cps.toList)).length ≤ 1000 := by
        refine Nat.le_trans (List.length_filter_le _ _) (Nat.le_trans (List.length_take_le' _ _) ?_)
        rw [Array.length_toList]
        exact ly'
      refine ite2 (fun q => ?_) (fun q => ?_)
      · refine ⟨_, hc, small1000 (by rw [List.length_map]; omega), fun b' o' e' => ?_, ?_⟩
        · rw [upd_ne (ne_of_none e' hD)]
          exact o2 _ _ e'
        · rw [upd_same, ht, List.filter_append, List.map_append]
          congr 3
          show _ = (List.filter _ [c]).map _
          rw [List.filter_cons, if_pos q]
          rfl
      · refine ⟨o2, ?_⟩
        rw [hc, ht, List.filter_append]
        congr 3
        rw [List.filter_cons, if_neg q]
        simp
    · rintro H2 ⟨o2, hc⟩
      have hall : (Str.ofString "ghls").cps.toList.take (Str.ofString "ghls").cps.size = (Str.ofString "ghls").cps.toList := by rw [← Array.length_toList, List.take_length]
      rw [hall] at hc
      have hl : ((Str.ofString "ghls").cps.toList.filter fun c => decide (c ∈ w.cps.toList)).length ≤ 1000 := by
        refine Nat.le_trans (List.length_filter_le _ _) ?_
        rw [Array.length_toList]
        exact ly'
      have hj := join_signs ((Str.ofString "ghls").cps.toList.filter fun c => decide (c ∈ w.cps.toList))
      generalize hcs : ((Str.ofString "ghls").cps.toList.filter fun c => decide (c ∈ w.cps.toList)) = cs at hc hl hj
      refine ⟨_, D, cs.map fun c => (⟨#[c]⟩ : Str), rfl, rfl, .inl (SqL.of (by rw [List.map_map]; exact hc)), ?_, ?_⟩
      · have e : ((cs.map fun c => (⟨#[c]⟩ : Str)).map (·.length)).sum = cs.length := by
          clear hc hl hcs hj
          induction cs with
          | nil => rfl
          | cons c cs ih =>
            rw [List.map_cons, List.map_cons, List.sum_cons, ih, List.length_cons]
            show 1 + cs.length = cs.length + 1
            omega
        rw [e, List.length_map, show (Str.ofString "").length = 0 from rfl, Nat.mul_zero]
        omega
      · have ej : Txt.join (Str.ofString "") (cs.map fun c => (⟨#[c]⟩ : Str)) = fewerR "ghls" w := by
          apply str_ext
          rw [hj, ← hcs]
          rfl
        rw [ej]
        refine ⟨(by decide : 2 ≤ sizeLine), fun t ht => ?_⟩
        refine ⟨t, _, rfl, .inr (SqT.of upd_same), rfl, rfl, _, rfl, ?_⟩
        have k := k _ (o2.trans (same_new ht (.tup [V.str (fewerR "ghls" w), V.str "-"])))
        have iv : inV (V.str w) [V.str (fewerR "ghls" w), V.str "-"] = (decide (w = fewerR "ghls" w) || decide (w = Str.ofString "-")) := by
          have q : ∀ a : Str, (a == w) = decide (w = a) := fun a => by
            rw [Bool.eq_iff_iff, beq_iff_eq, decide_eq_true_iff]
            exact eq_comm
          show ((fewerR "ghls" w == w) || ((Str.ofString "-" == w) || false)) = _
          rw [q, q, Bool.or_false]
        rw [iv]
        have pv : partV w "rights" rows = if rightsB (readR w) = true then readR w else .non := by
          unfold partV valueB readV
          rw [if_neg (sne (by decide +kernel)), if_neg (sne (by decide +kernel)), if_neg (sne (by decide +kernel)), if_pos rfl, if_pos rfl]
        rw [pv] at k
        unfold readR at k
        by_cases c1 : w = Str.ofString "-"
        · subst c1
          rw [if_pos rfl, if_pos (by decide +kernel)] at k
          rw [decide_eq_true (rfl : Str.ofString "-" = Str.ofString "-"), Bool.or_true]
          refine iteT ⟨rfl, _, rfl, iteT' (by decide +kernel) ?_⟩
          rw [show fewerR "ghls" (Str.ofString "-") = Str.ofString "" by decide +kernel]
          exact k
        · rw [if_neg c1] at k
          by_cases c2 : w = Str.ofString ""
          · subst c2
            rw [if_pos rfl] at k
            refine iteT' (by decide +kernel) ⟨rfl, _, rfl, iteF' (by decide +kernel) ?_⟩
            exact k
          · rw [if_neg c2] at k
            by_cases c3 : w = fewerR "ghls" w
            · rw [decide_eq_true c3, Bool.true_or]
              refine iteT ⟨rfl, _, rfl, iteT' ?_ ?_⟩
              · rw [dstr]
                simp [c2]
              · rw [if_pos (show rightsB (.str w) = true from decide_eq_true c3)] at k
                rw [← c3]
                rw [← c3] at k
                exact k
            · rw [decide_eq_false c3, decide_eq_false c1]
              rw [if_neg (show ¬ rightsB (.str w) = true from fun z => c3 (of_decide_eq_true z))] at k
              exact iteF k
  · have hw0 : w.length ≤ sizeLine := small_le (by omega)
    refine ⟨1, rfl, hw0, rfl, .inr ⟨_, rfl, ?_⟩⟩
    refine ⟨_, rfl, hw0, ?_⟩
    rw [dstr]
    have hz : tl (Txt.slice w (some (if decide (Txt.slice w none (some 1) = Str.ofString "-") = true then 1 else 0)) none) = figL (tl w) := size_eq (by rw [decide_eq_true_iff]; exact head_iff w)
    have ty := TOk.slice tw (some (if decide (Txt.slice w none (some 1) = Str.ofString "-") = true then 1 else 0)) none
    have ly := Nat.le_trans (Txt.slice_le w (some (if decide (Txt.slice w none (some 1) = Str.ofString "-") = true then 1 else 0)) none) hw
    generalize Txt.slice w (some (if decide (Txt.slice w none (some 1) = Str.ofString "-") = true then 1 else 0)) none = y at hz ty ly
    refine ⟨small_le (by omega), _, rfl, ?_⟩
    have ek : ¬ kd = Str.ofString "rights" := by
      have h : ∀ p ∈ soL, p.2 = Str.ofString "rights" → p.1 = Str.ofString "t" := by decide +kernel
      exact fun z => c (decide_eq_true (h _ hso z))
    have pn : partV w kd rows = if shapeN w = true then (match intText? w with | some n => (if numS n = w then (if valueB (.int n) kd rows = true then .int n else .non) else .non) | none => .non) else .non := by
      unfold partV readV readN
      rw [if_neg ek]
      by_cases sh : shapeN w = true
      · rw [if_pos sh, if_pos sh]
        cases intText? w with
        | none => dsimp only; split <;> rfl
        | some n =>
          dsimp only
          by_cases c : numS n = w
          · simp only [if_pos c]
          · simp only [if_neg c]
            split <;> rfl
      · rw [if_neg sh, if_neg sh]
        split <;> rfl
    have hs : shapeN w = ((decide (1 ≤ (figL (tl w)).length) && decide ((figL (tl w)).length ≤ 5)) && (figL (tl w)).all figB) := rfl
    rw [← hz, ← len_tl] at hs
    have kn : ∀ H', ¬ shapeN w = true → Same H H' → Q .non H' := fun H' z s => by
      have := k H' s
      rw [pn, if_neg z] at this
      exact this
    by_cases c1 : ¬ 1 ≤ y.length
    · refine iteF' (decide_eq_false (by show ¬ (1 : Int) ≤ (y.length : Int); omega)) ?_
      have hn : ¬ shapeN w = true := by rw [hs, decide_eq_false c1]; simp
      first | exact ⟨_, rfl, iteT (iteT (kn H hn (Same.refl _)))⟩ | exact iteT (iteT (kn H hn (Same.refl _)))
    have c1 := Decidable.not_not.mp c1
    refine iteT' (decide_eq_true (by show (1 : Int) ≤ (y.length : Int); omega)) ?_
    refine ⟨_, rfl, ?_⟩
    by_cases c2 : ¬ y.length ≤ 5
    · rw [decide_eq_false (show ¬ (y.length : Int) ≤ 5 by omega)]
      have hn : ¬ shapeN w = true := by rw [hs, decide_eq_false c2]; simp
      first | exact iteT (iteT (kn H hn (Same.refl _))) | exact ⟨_, rfl, iteT (iteT (kn H hn (Same.refl _)))⟩
    have c2 := Decidable.not_not.mp c2
    rw [decide_eq_true (show (y.length : Int) ≤ 5 by omega)]
    refine iteF ?_
    refine ⟨_, rfl, fun D hD => ?_⟩
    refine lc_by (n := y.cps.size) (fun i H2 => Same H H2 ∧ H2 D = some (.lst (((y.cps.toList.take i).filter fun c => !figB c).map fun c => V.str ⟨#[c]⟩))) ⟨same_new hD _, upd_same⟩ (fun i H2 hi _ => hi) (fun H2 _ => Nat.le_refl _) ?_ ?_
    · rintro i H2 x H2' hi ⟨o2, hc⟩ ⟨rfl, c, hx, rfl⟩
      refine ⟨rfl, ?_⟩
      refine ⟨c, _, rfl, rfl, _, rfl, ?_⟩
      have hx' : y.cps.toList[i]? = some c := by simpa using hx
      have ht : y.cps.toList.take (i + 1) = y.cps.toList.take i ++ [c] := by
        rw [List.take_succ, hx']
        rfl
      have hl : ((y.cps.toList.take i).filter fun c => !figB c).length ≤ 1000 := by
        refine Nat.le_trans (List.length_filter_le _ _) (Nat.le_trans (List.length_take_le' _ _) ?_)
        show y.length ≤ _
        omega
      have eg : (!decide (c ∈ (Str.ofString "0123456789").cps.toList)) = !figB c := rfl
      rw [eg]
      refine ite2 (fun q => ?_) (fun q => ?_)
      · refine ⟨_, hc, small1000 (by rw [List.length_map]; omega), fun b' o' e' => ?_, ?_⟩
        · rw [upd_ne (ne_of_none e' hD)]
          exact o2 _ _ e'
        · rw [upd_same, ht, List.filter_append, List.map_append]
          congr 3
          show _ = (List.filter _ [c]).map _
          rw [List.filter_cons, if_pos q]
          rfl
      · refine ⟨o2, ?_⟩
        rw [hc, ht, List.filter_append]
        congr 3
        rw [List.filter_cons, if_neg q]
        simp
    · rintro H2 ⟨o2, hc⟩
      have hall : y.cps.toList.take y.cps.size = y.cps.toList := by rw [← Array.length_toList, List.take_length]
      rw [hall] at hc
      refine ⟨(by decide : 0 ≤ sizeLine), fun z hz0 => ?_⟩
      have sz := same_new hz0 (.lst [])
      have hzs : ((y.cps.toList.filter fun c => !figB c).map fun c => V.str ⟨#[c]⟩) = ((y.cps.toList.filter fun c => !figB c).map fun c => (⟨#[c]⟩ : Str)).map V.str := by rw [List.map_map]; rfl
      rw [hzs] at hc
      refine ⟨strsD ((y.cps.toList.filter fun c => !figB c).map fun c => (⟨#[c]⟩ : Str)), .list [], strs_dp (SqL.of (sz _ _ hc)), .lst (SqL.of upd_same) .nil, strs_shaped _ (fun p hp c hc => ?_), by decide +kernel, _, rfl, ?_⟩
      · obtain ⟨d, hd, rfl⟩ := List.mem_map.mp hp
        have : c = d := by simpa [tl] using hc
        subst this
        exact ty c (List.mem_filter.mp hd).1
      rw [strs_eq_nil]
      have s2 := o2.trans sz
      generalize upd H2 z (.lst []) = H3 at s2 ⊢
      by_cases c3 : ¬ (tl y).all figB = true
      · have hn : ¬ shapeN w = true := by rw [hs]; simp [c3]
        have e : (!((y.cps.toList.filter fun c => !figB c).map fun c => (⟨#[c]⟩ : Str)).isEmpty) = true := by
          rw [filt_empty]
          show (!(tl y).all figB) = true
          simpa using c3
        rw [e]
        exact iteT (kn _ hn s2)
      have c3 := Decidable.not_not.mp c3
      have e : (!((y.cps.toList.filter fun c => !figB c).map fun c => (⟨#[c]⟩ : Str)).isEmpty) = false := by
        rw [filt_empty]
        show (!(tl y).all figB) = false
        rw [c3]
        rfl
      rw [e]
      refine iteF ?_
      have sh : shapeN w = true := by rw [hs, decide_eq_true c1, decide_eq_true c2, c3]; rfl
      obtain ⟨n, en, sn, lw⟩ := shape_int sh
      rw [if_pos sh, en] at pn
      dsimp only at pn
      refine ⟨_, n, rfl, en, by omega, ?_⟩
      intro d hd
      have sd := same_new hd (.dK [])
      have ed : upd H3 d (.dK []) d = some (.dK []) := upd_same
      generalize upd H3 d (.dK []) = H4 at sd ed ⊢
      refine ⟨(by decide : 2 ≤ sizeLine), fun t1 h1 => ?_⟩
      have s1 := same_new h1 (.tup [V.int 0, V.int 7])
      have e1 : upd H4 t1 (.tup [V.int 0, V.int 7]) t1 = some (.tup [V.int 0, V.int 7]) := upd_same
      have ed := s1 _ _ ed
      have sd := sd.trans s1
      generalize upd H4 t1 (.tup [V.int 0, V.int 7]) = H5 at sd ed e1 ⊢
      refine ⟨(by decide : 2 ≤ sizeLine), fun t2 h2 => ?_⟩
      have s1 := same_new h2 (.tup [V.int (0 - 10000), V.int 9999])
      have e2 : upd H5 t2 (.tup [V.int (0 - 10000), V.int 9999]) t2 = some (.tup [V.int (0 - 10000), V.int 9999]) := upd_same
      have ed := s1 _ _ ed
      have e1 := s1 _ _ e1
      have sd := sd.trans s1
      generalize upd H5 t2 (.tup [V.int (0 - 10000), V.int 9999]) = H6 at sd ed e1 e2 ⊢
      refine ⟨(by decide : 2 ≤ sizeLine), fun t3 h3 => ?_⟩
      have s1 := same_new h3 (.tup [V.int (0 - 63), V.int 63])
      have e3 : upd H6 t3 (.tup [V.int (0 - 63), V.int 63]) t3 = some (.tup [V.int (0 - 63), V.int 63]) := upd_same
      have ed := s1 _ _ ed
      have e1 := s1 _ _ e1
      have e2 := s1 _ _ e2
      have sd := sd.trans s1
      generalize upd H6 t3 (.tup [V.int (0 - 63), V.int 63]) = H7 at sd ed e1 e2 e3 ⊢
      refine ⟨(by decide : 2 ≤ sizeLine), fun t4 h4 => ?_⟩
      have s1 := same_new h4 (.tup [V.int 0, V.int rows])
      have e4 : upd H7 t4 (.tup [V.int 0, V.int rows]) t4 = some (.tup [V.int 0, V.int rows]) := upd_same
      have ed := s1 _ _ ed
      have e1 := s1 _ _ e1
      have e2 := s1 _ _ e2
      have e3 := s1 _ _ e3
      have sd := sd.trans s1
      generalize upd H7 t4 (.tup [V.int 0, V.int rows]) = H8 at sd ed e1 e2 e3 e4 ⊢
      refine ⟨(by decide : 2 ≤ sizeLine), fun t5 h5 => ?_⟩
      have s1 := same_new h5 (.tup [V.int 0, V.int (rows - 1)])
      have e5 : upd H8 t5 (.tup [V.int 0, V.int (rows - 1)]) t5 = some (.tup [V.int 0, V.int (rows - 1)]) := upd_same
      have ed := s1 _ _ ed
      have e1 := s1 _ _ e1
      have e2 := s1 _ _ e2
      have e3 := s1 _ _ e3
      have e4 := s1 _ _ e4
      have sd := sd.trans s1
      generalize upd H8 t5 (.tup [V.int 0, V.int (rows - 1)]) = H9 at sd ed e1 e2 e3 e4 e5 ⊢
      refine ⟨ed, [(.inr "b", .ref t1), (.inr "n", .ref t2), (.inr "o", .ref t3), (.inr "g", .ref t4), (.inr "r", .ref t5)], rfl, (by show 5 ≤ 15; decide), ?_⟩
      have tp : Tups H9 (upd H9 d (.dK (mergeK [] [(.inr "b", .ref t1), (.inr "n", .ref t2), (.inr "o", .ref t3), (.inr "g", .ref t4), (.inr "r", .ref t5)]))) := Tups.upd (soft_dK ed)
      have s9 : Same H (upd H9 d (.dK (mergeK [] [(.inr "b", .ref t1), (.inr "n", .ref t2), (.inr "o", .ref t3), (.inr "g", .ref t4), (.inr "r", .ref t5)]))) := fill_same (none_back s2 hd) (s2.trans sd) (Same.refl _)
      have em : upd H9 d (.dK (mergeK [] [(.inr "b", .ref t1), (.inr "n", .ref t2), (.inr "o", .ref t3), (.inr "g", .ref t4), (.inr "r", .ref t5)])) d = some (.dK [(.inr "b", .ref t1), (.inr "n", .ref t2), (.inr "o", .ref t3), (.inr "g", .ref t4), (.inr "r", .ref t5)]) := upd_same
      have e1 := tp _ _ e1
      have e2 := tp _ _ e2
      have e3 := tp _ _ e3
      have e4 := tp _ _ e4
      have e5 := tp _ _ e5
      generalize upd H9 d (.dK (mergeK [] [(.inr "b", .ref t1), (.inr "n", .ref t2), (.inr "o", .ref t3), (.inr "g", .ref t4), (.inr "r", .ref t5)])) = H10 at s9 em e1 e2 e3 e4 e5 ⊢
      obtain ⟨t, lo, hi, eg, et, eb⟩ := bnd_of hso ek e1 e2 e3 e4 e5
      refine ⟨.ref t, by rw [← eg]; exact DGet.k (k := .inr so) em, ?_⟩
      refine ⟨t, _, rfl, SqT.of et, rfl, _, _, rfl, _, _, rfl, rfl, ?_⟩
      have k := k H10 s9
      rw [pn] at k
      refine ⟨log_small sn, rfl, _, rfl, ?_⟩
      rw [dstr]
      by_cases c4 : numS n = w
      · rw [if_pos c4, eb] at k
        refine iteT' (decide_eq_true c4) ?_
        refine ⟨_, rfl, ?_⟩
        by_cases a1 : lo ≤ n
        · rw [decide_eq_true a1, Bool.true_and] at k
          refine iteT' (decide_eq_true a1) ⟨_, rfl, ?_⟩
          by_cases a2 : n ≤ hi
          · rw [if_pos (decide_eq_true a2)] at k
            exact iteT' (decide_eq_true a2) k
          · rw [if_neg (fun z => a2 (of_decide_eq_true z))] at k
            exact iteF' (decide_eq_false a2) k
        · rw [decide_eq_false a1, Bool.false_and] at k
          refine iteF' (decide_eq_false a1) ?_
          first | exact ⟨_, rfl, iteF k⟩ | exact iteF k
      · rw [if_neg c4] at k
        exact iteF' (decide_eq_false c4) (iteF k)
end
end Tm
set_option Elab.async false
set_option linter.all false
set_option maxRecDepth 100000
set_option maxHeartbeats 2000000
set_option pp.maxSteps 900
set_option pp.deepTerms false
namespace L2
open PySem PySem.Spec PyProof.Rows
theorem qcall0 {X : Cx} {k : Nat} {x : Str} {dvs : List V} {ps : List Str} {sp : Sp} {p pos : Pos} (F : Df X.prog X.w X.K X.mg X.base k x ps dvs sp) (hr : Room k X.A) (hg : Gl X x := by rfl) (hdb : (x == ("__debug__" : Str)) = false := by decide) : PE X (.Call (.Name x p) [] [] pos) (tCall sp dvs E0 tNil) := by
  obtain ⟨f, fd, ds, F, hm, hk, hb, hd⟩ := F.ex
  exact pe_call0 F hr hg hm hk hb hd pass0 hdb
end L2
namespace Tm
open PySem L2 TL
def fitF (f : Str) (ks : List Str) : Bool := decide (f.cps.toList.length = ks.length) && (f.cps.toList.zip ks).all fun p => decide (((⟨#[p.1]⟩ : Str), p.2) ∈ soL)
theorem look_mem {α : Type} {z : Str} {v : α} : ∀ {L : List (Str × α)}, L.lookup z = some v → (z, v) ∈ L
  | [], h => by cases h
  | (y, k2) :: L, h => by
    by_cases c : z = y
    · subst c
      rw [List.lookup_cons_self] at h
      cases h
      exact List.mem_cons_self ..
    · rw [List.lookup_cons, show (z == y) = false from beq_eq_false_iff_ne.mpr c] at h
      exact List.mem_cons_of_mem _ (look_mem h)
theorem form_some {z f : Str} (h : formsL.lookup z = some f) : ∃ ks, shapesL.lookup z = some ks ∧ fitF f ks = true := by
  have a : formsL.all (fun p => match shapesL.lookup p.1 with | some ks => fitF p.2 ks | none => false) = true := by decide +kernel
  have b := List.all_eq_true.mp a _ (look_mem h)
  dsimp only at b
  cases e : shapesL.lookup z with
  | none => rw [e] at b; cases b
  | some ks => rw [e] at b; exact ⟨ks, rfl, b⟩
theorem form_none {z : Str} (h : formsL.lookup z = none) : shapesL.lookup z = none := by
  cases e : shapesL.lookup z with
  | none => rfl
  | some ks =>
    have a : shapesL.all (fun p => (formsL.lookup p.1).isSome) = true := by decide +kernel
    have b := List.all_eq_true.mp a _ (look_mem e)
    dsimp only at b
    rw [h] at b
    cases b
theorem forms_val (z : Str) : valV formsK (.inr z) = (formsL.lookup z).map V.str := by
  unfold formsK
  generalize formsL = L
  induction L with
  | nil => rfl
  | cons p L ih =>
    obtain ⟨y, f⟩ := p
    rw [List.map_cons]
    by_cases c : z = y
    · subst c
      rw [valV_pos rfl, List.lookup_cons_self]
      rfl
    · rw [valV_neg (fun e => c (Sum.inr.inj e).symm), List.lookup_cons, show (z == y) = false from beq_eq_false_iff_ne.mpr c]
      exact ih
theorem fitF_at {f : Str} {ks : List Str} (h : fitF f ks = true) : f.cps.toList.length = ks.length ∧ ∀ (j c : Nat) (k : Str), f.cps.toList[j]? = some c → ks[j]? = some k → ((⟨#[c]⟩ : Str), k) ∈ soL := by
  unfold fitF at h
  obtain ⟨h1, h2⟩ := Bool.and_eq_true_iff.mp h
  refine ⟨of_decide_eq_true h1, fun j c k e1 e2 => ?_⟩
  have := List.all_eq_true.mp h2 (c, k) (List.mem_of_getElem? (List.getElem?_zip_eq_some.mpr ⟨e1, e2⟩))
  exact of_decide_eq_true this
theorem rowB_zip {rows : Int} : ∀ (ot ks : List Str), ot.length = ks.length → (((ot.zip ks).map fun p => readV p.1 p.2).zip ks).all (fun p => valueB p.1 p.2 rows) = (ot.zip ks).all (fun p => valueB (readV p.1 p.2) p.2 rows)
  | [], [], _ => rfl
  | o :: ot, k :: ks, h => by
    rw [List.zip_cons_cons, List.map_cons, List.zip_cons_cons, List.all_cons, List.all_cons, rowB_zip ot ks (by simpa using h)]
  | [], _ :: _, h => by simp at h
  | _ :: _, [], h => by simp at h
theorem value_non {k : Str} {rows : Int} : valueB .non k rows = false := by
  unfold valueB
  split
  · rfl
  · split
    · rfl
    · split
      · rfl
      · split
        · rfl
        · split <;> rfl
theorem parts_in (rows : Int) (z : Str) : ∀ L : List (Str × Str), inV .non (.str z :: L.map fun p => partV p.1 p.2 rows) = !(L.all fun p => valueB (readV p.1 p.2) p.2 rows)
  | [] => rfl
  | p :: L => by
    have ih := parts_in rows z L
    have e1 : inV .non (.str z :: (p :: L).map fun p => partV p.1 p.2 rows) = (eqV (partV p.1 p.2 rows) .non || inV .non (.str z :: L.map fun p => partV p.1 p.2 rows)) := by
      unfold inV
      rw [List.map_cons, List.any_cons, List.any_cons, List.any_cons]
      show (false || (_ || _)) = (_ || (false || _))
      rw [Bool.false_or, Bool.false_or]
    rw [e1, ih, List.all_cons]
    unfold partV
    cases c : valueB (readV p.1 p.2) p.2 rows with
    | false => rfl
    | true =>
      rw [if_pos rfl]
      have : eqV (readV p.1 p.2) .non = false := by
        rcases readV_cases p.1 p.2 with e | ⟨n, e, _⟩ | ⟨y, e, _⟩
        · rw [e, value_non] at c; cases c
        · rw [e]; rfl
        · rw [e]; rfl
      rw [this]
      rfl
theorem parts_all {rows : Int} : ∀ {L : List (Str × Str)}, (L.all fun p => valueB (readV p.1 p.2) p.2 rows) = true → (L.map fun p => partV p.1 p.2 rows) = L.map fun p => readV p.1 p.2
  | [], _ => rfl
  | p :: L, h => by
    rw [List.all_cons] at h
    obtain ⟨h1, h2⟩ := Bool.and_eq_true_iff.mp h
    rw [List.map_cons, List.map_cons, parts_all h2]
    unfold partV
    rw [if_pos h1]
theorem parts_flat (rows : Int) : ∀ L : List (Str × Str), (L.map fun p => partV p.1 p.2 rows).all flatV = true
  | [] => rfl
  | p :: L => by
    rw [List.map_cons, List.all_cons, parts_flat rows L]
    unfold partV
    split
    · rcases readV_cases p.1 p.2 with e | ⟨n, e, _⟩ | ⟨y, e, _⟩ <;> (rw [e]; rfl)
    · rfl
def spLine : Sp := fun vs H Q _ => ∃ (l : Str) (rows : Int), vs = [.str l, .int rows] ∧ l.length ≤ 500000 ∧ TOk l ∧ ∀ (v : V) (H' : Hp), Same H H' → (if rowB rows (rowV l) = true then ∃ t, v = .ref t ∧ H' t = some (.tup (rowV l)) else v = .non) → Q v H'
abbrev s_law_line : Stmt := top 48
abbrev N_law_line : List Str := ["_law_line_here", "_law_rows", "_law_words", "_law_form", "_law_found", "_law_k"]
abbrev P_law_line : List Str := ["_law_line_here", "_law_rows"]
theorem sc_law_line : FnScope N_law_line P_law_line (defScope s_law_line) := ⟨rfl, rfl, rfl, by decide +kernel, rfl, by decide +kernel, by decide +kernel⟩
section
variable {P : Program} {w : World} {K : PySem.W.Frag} {mg : Str → Option Value} {base : Heap}
theorem ok_line {f : Addr} {fd : FuncData} (F : Fun K "_law_line" "_law_line" s_law_line f fd) (T : Tx mg) (D_law_forms : Df P w K mg base 1 "_law_forms" P_law_forms [] spForms) (D_law_part : Df P w K mg base 1 "_law_part" P_law_part [] spPart) : FnOk P w K mg base CX0 2 f fd P_law_line spLine := by
  have sc := sc_law_line
  refine F.ok sc (fun vs H Q E h => ?_) (fun cdv A outer s H vs Q E hr h => ?_)
  · obtain ⟨l, rows, rfl, _⟩ := h
    rfl
  obtain ⟨l, rows, rfl, hl, tl_, k⟩ := h
  have hu := hu_of hr
  have hu64 := hr.units
  refine ⟨_, ((pss_cons (ps_set (i := 2) sc.nd rfl (by first | exact Or.inl rfl | exact Or.inr rfl) (pe_split (qv 0) pe_str))
  (pss_cons (ps_set (i := 3) sc.nd rfl (by first | exact Or.inl rfl | exact Or.inr rfl) (pe_dget1 hu (qcall0 D_law_forms (by first | exact hr | exact hr.mono (by omega))) (pe_ix (iq K hu) (qv 2) pe_int (fun _ _ => rfl)) ⟨by rfl, by rfl, by rfl, by rfl⟩))
  (pss_cons (ps_if (PW.pt (pw_or (pt_cmpR op_isN (qv 3) pe_non (nomark _)) (pw_or1 (pt_cmpR (oq_ne K hu64) (pe_callB (cq_len K) (by rfl) T.len (by decide +kernel) (pa_cons (qv 2) pa_nil)) (pe_op (oq_add K) (pe_callB (cq_len K) (by rfl) T.len (by decide +kernel) (pa_cons (qv 3) pa_nil)) pe_int) (nomark _)))))
  (pss_one (ps_ret pe_non))
  pss_nil)
  (pss_cons (ps_set (i := 4) sc.nd rfl (by first | exact Or.inl rfl | exact Or.inr rfl) (pe_op (oq_add K) (pe_tup (pa_cons (pe_ix (iq K hu) (qv 2) pe_int (fun _ _ => rfl)) pa_nil)) (pe_callTy call_tuple_of (by rfl) T.tuple (by decide +kernel) (pa_cons (pe_lc (own := [("_law_k", 5)]) (g := gName 5) (by rfl) sc.nd (pi_range1 (by rfl) T.range (pa_cons (pe_callB (cq_len K) (by rfl) T.len (by decide +kernel) (pa_cons (qv 3) pa_nil)) pa_nil)) (blkOk_by (own := [("_law_k", 5)]) (N := N_law_line) (sc := defScope s_law_line) (by decide +kernel)) (fun _ _ _ _ _ => (pg_name (i := 5) sc.nd rfl (by first | exact Or.inl rfl | exact Or.inr rfl))) (fun _ _ _ _ _ => pts_nil) (fun _ _ _ _ _ => (qcall D_law_part (by first | exact hr | exact hr.mono (by omega)) (pa_cons (pe_ix (iq K hu) (qv 2) (pe_op (oq_add K) (qv 5) pe_int) (fun _ _ => rfl)) (pa_cons (pe_ix (iq K hu) (qv 3) (qv 5) (fun _ _ => rfl)) (pa_cons (qv 1) pa_nil)))))) pa_nil))))
  (pss_one (ps_ret (pe_ifExp (pt_cmpR (oq_in K) pe_non (qv 4) (by rfl)) pe_non (qv 4)))))))) : PSs _ (_ :: _) _), ?_⟩
  refine ⟨⟨_, rfl⟩, _, _, rfl, rfl, by decide +kernel, (by have : l.length + 2 ≤ 1000000 := by omega
                                                           exact small_le this), fun p hp => ?_⟩
  have e0 : Txt.split l " " = wordsOf l := rfl
  rw [e0]
  have hcl : ∀ o ∈ wordsOf l, o.length ≤ 500000 := fun o ho => Nat.le_trans (cut_len blank_ne blank_k o ho) (by omega)
  have hct : ∀ o ∈ wordsOf l, TOk o := TOk.cut tl_ blank_ne blank_k
  have hwl : (wordsOf l).length ≤ 1000000 := by
    have := cut_many (w := l) blank_ne blank_k
    show (Txt.split l (Str.ofString " ")).length ≤ _
    omega
  have ew := words_eq l
  have hrv : rowV l = if (wordsOf l).tail.length = (kindsW (headW l)).length then .str (headW l) :: ((wordsOf l).tail.zip (kindsW (headW l))).map (fun p => readV p.1 p.2) else [] := rfl
  generalize rowV l = rv at k hrv
  generalize headW l = z at hrv ew
  generalize wordsOf l = ws at hcl hct hwl ew hrv
  obtain ⟨ot, rfl⟩ : ∃ ot, ws = z :: ot := ⟨_, ew⟩
  rw [List.tail_cons] at hrv
  clear ew
  have SS := same_new hp (.lst ((z :: ot).map V.str))
  have ep : upd H p (.lst ((z :: ot).map V.str)) p = some (.lst ((z :: ot).map V.str)) := upd_same
  generalize upd H p (.lst ((z :: ot).map V.str)) = H1 at SS ep ⊢
  refine ⟨rfl, fun d H2 s2 nd ed => ?_⟩
  have ep := s2 _ _ ep
  have SS := SS.trans s2
  refine ⟨d, rfl, .inl ⟨_, .inl ed⟩, ?_⟩
  refine .inl ⟨_, _, SqL.of ep, at0 _ _, ?_⟩
  refine ⟨_, DGet.k (k := .inr z) ed, ?_⟩
  rw [forms_val]
  cases ef : formsL.lookup z with
  | none =>
    have es := form_none ef
    have kw : kindsW z = [] := by unfold kindsW; rw [es]; rfl
    have rb : ¬ rowB rows rv = true := by
      rw [hrv]
      split
      · rw [rowB_str, es]
        exact Bool.false_ne_true
      · exact Bool.false_ne_true
    have k := k .non H2 SS (by rw [if_neg rb])
    exact ⟨rfl, _, rfl, iteT (iteT k)⟩
  | some f =>
    obtain ⟨ks, es, fit⟩ := form_some ef
    obtain ⟨fl, fm⟩ := fitF_at fit
    have kw : kindsW z = ks := by unfold kindsW; rw [es]; rfl
    have k3 : ks.length ≤ 3 := by rw [← kw]; exact kinds_small z
    have fl' : f.length = ks.length := by rw [len_tl]; exact fl
    rw [kw] at hrv
    refine ⟨rfl, _, rfl, iteF ?_⟩
    refine .inl ⟨_, SqL.of ep, ?_⟩
    refine ⟨small_le (by omega), ?_⟩
    refine ⟨rfl, _, rfl, ?_⟩
    by_cases c : ¬ ot.length = ks.length
    · rw [if_neg c] at hrv
      have rb : ¬ rowB rows rv = true := by rw [hrv]; exact Bool.false_ne_true
      have k := k .non H2 SS (by rw [if_neg rb])
      have e : (!decide (V.int (((z :: ot).map V.str).length : Nat) = V.int ((f.length : Nat) + 1))) = true := by
        rw [decide_eq_false (fun q => c (by
          have q := V.int.inj q
          rw [List.length_map, List.length_cons] at q
          omega))]
        rfl
      rw [e]
      exact iteT k
    have c := Decidable.not_not.mp c
    rw [if_pos c] at hrv
    have e : (!decide (V.int (((z :: ot).map V.str).length : Nat) = V.int ((f.length : Nat) + 1))) = false := by
      rw [decide_eq_true (by
        rw [List.length_map, List.length_cons, c, fl']
        rfl)]
      rfl
    rw [e]
    refine iteF ?_
    refine .inl ⟨_, _, SqL.of ep, at0 _ _, ?_⟩
    refine ⟨(by decide : 1 ≤ sizeLine), fun tw htw => ?_⟩
    have s3 := same_new htw (.tup [V.str z])
    have ep := s3 _ _ ep
    have SS := SS.trans s3
    have tw3 : upd H2 tw (.tup [V.str z]) tw = some (.tup [V.str z]) := upd_same
    generalize upd H2 tw (.tup [V.str z]) = H3 at SS ep tw3 ⊢
    refine ⟨small_le (by omega), _, rfl, by omega, by omega, fun D hD => ?_⟩
    have lz : (ot.zip ks).length = ks.length := by rw [List.length_zip, c, Nat.min_self]
    refine lc_range (lo := 0) (n := ((f.length : Nat) : Int).toNat) (fun i H' => Same H3 H' ∧ H' D = some (.lst (((ot.zip ks).take i).map fun p => partV p.1 p.2 rows))) ⟨same_new hD _, upd_same⟩ ?_ ?_
    · rintro i H4 hi ⟨s4, d4⟩
      have hi' : i < ks.length := by omega
      have zi : (0 : Int) + (i : Int) = ((i : Nat) : Int) := by omega
      obtain ⟨o, eo⟩ : ∃ o, ot[i]? = some o := ⟨_, List.getElem?_eq_getElem (by omega)⟩
      obtain ⟨kd, ek⟩ : ∃ kd, ks[i]? = some kd := ⟨_, List.getElem?_eq_getElem hi'⟩
      obtain ⟨cc, ecc⟩ : ∃ cc, f.cps.toList[i]? = some cc := ⟨_, List.getElem?_eq_getElem (by omega)⟩
      refine ⟨rfl, ?_⟩
      refine .inl ⟨_, _, SqL.of (s4 _ _ ep), (by
        rw [zi, show ((i : Nat) : Int) + 1 = ((i + 1 : Nat) : Int) by omega]
        exact atI_nat (by rw [List.getElem?_map, List.getElem?_cons_succ, eo]; rfl)), ?_⟩
      refine ⟨small_le (by omega), cc, (by rw [zi]; exact atI_nat ecc), ?_⟩
      have ho := List.mem_of_getElem? eo
      refine ⟨o, _, kd, rows, rfl, fm i cc kd ecc ek, hcl o (List.mem_cons_of_mem _ ho), hct o (List.mem_cons_of_mem _ ho), fun H5 s5 => ?_⟩
      refine ⟨_, s5 _ _ d4, ?_, fill_same hD s4 s5, ?_⟩
      · rw [List.length_map]
        exact small1000 (Nat.le_trans (List.length_take_le' _ _) (by omega))
      · have ez : (ot.zip ks)[i]? = some (o, kd) := by
          rw [List.getElem?_zip_eq_some]
          exact ⟨eo, ek⟩
        rw [upd_same, List.take_succ, ez, List.map_append]
        rfl
    · rintro H4 ⟨s4, d4⟩
      rw [show ((f.length : Nat) : Int).toNat = (ot.zip ks).length by rw [lz, fl']; rfl, List.take_length] at d4
      have iv := parts_in rows z (ot.zip ks)
      have pf := parts_flat rows (ot.zip ks)
      have pa : ((ot.zip ks).all fun p => valueB (readV p.1 p.2) p.2 rows) = true → ((ot.zip ks).map fun p => partV p.1 p.2 rows) = (ot.zip ks).map fun p => readV p.1 p.2 := parts_all
      have rb : rowB rows rv = (ot.zip ks).all fun p => valueB (readV p.1 p.2) p.2 rows := by
        rw [hrv, rowB_str, es]
        dsimp only
        rw [List.length_map, lz, decide_eq_true rfl, Bool.true_and]
        exact rowB_zip ot ks c
      have lv : ((ot.zip ks).map fun p => partV p.1 p.2 rows).length ≤ 3 := by rw [List.length_map, lz]; exact k3
      generalize hp : ((ot.zip ks).map fun p => partV p.1 p.2 rows) = args at d4 iv pf pa lv
      have fin : ∀ (t : Addr) (H' : Hp), Same H H' → H' t = some (.tup (.str z :: args)) → (if inV .non (.str z :: args) = true then Q .non H' else Q (.ref t) H') := by
        intro t H' s' et
        rw [iv, ← rb]
        cases hb : rowB rows rv with
        | false =>
          rw [if_pos (show (!false) = true from rfl)]
          exact k .non H' s' (by rw [if_neg (by rw [hb]; exact Bool.false_ne_true)])
        | true =>
          rw [if_neg (show ¬ (!true) = true by decide)]
          refine k (.ref t) H' s' ?_
          rw [if_pos hb]
          refine ⟨t, rfl, ?_⟩
          rw [et, hrv, pa (by rw [← rb]; exact hb)]
      refine ⟨D, args, rfl, .inl ⟨SqL.of d4, fun ta hta => ?_⟩⟩
      have s5 := (SS.trans s4).trans (same_new hta (.tup args))
      have tw5 := same_new hta (.tup args) _ _ (s4 _ _ tw3)
      refine .inr ⟨_, _, _, _, rfl, rfl, SqT.of tw5, SqT.of upd_same, (by intro z; cases z), ?_, ?_, ?_⟩
      · exact Nat.le_trans (show 1 + args.length ≤ 5 by omega) (by decide)
      · intro z0
        refine ⟨tw, _, rfl, .inr (SqT.of tw5), rfl, rfl, _, rfl, ?_⟩
        have := fin tw _ s5 (tw5.trans (by rw [z0]))
        have q : inV .non (.str z :: args) = false := by rw [z0]; rfl
        rw [if_neg (by rw [q]; exact Bool.false_ne_true)] at this
        exact iteF' (by rfl) this
      · intro z0 tr htr
        refine ⟨tr, _, rfl, .inr (SqT.of upd_same), rfl, (by show (true && args.all flatV) = true; rw [pf]; rfl), _, rfl, ?_⟩
        have := fin tr _ (s5.trans (same_new htr (.tup ([V.str z] ++ args)))) upd_same
        cases q : inV .non (.str z :: args) with
        | true =>
          rw [if_pos q] at this
          exact iteT' q this
        | false =>
          rw [if_neg (by rw [q]; exact Bool.false_ne_true)] at this
          exact iteF' q this
end
end Tm
set_option Elab.async false
set_option linter.all false
set_option maxRecDepth 100000
set_option maxHeartbeats 1000000
namespace L2
open PySem PySem.Spec PySem.W PyProof.Rows PySem.Calls PySem.Builtin PySem.Builtin.ObjectAttr PySem.Builtin.Getset_descriptor
section
variable {prog : Program} {w : World} {A : Around} {E : Value → Shared → Prop} {K : PySem.W.Frag} {x D : Addr} {cls : Value}
structure ExcK (K : PySem.W.Frag) (D : Addr) : Prop where
  g : PySem.W.findIn K (.ref D) "__getattribute__" = some (some (.builtin "BaseException.__getattribute__"))
  g2 : PySem.W.findIn K (.ref D) "__getattr__" = some none
  b : PySem.W.mroIn K D (.type "BaseException") = some true
  a : PySem.W.findIn K (.ref D) "__class__" = some (some (.builtin "object.__class__"))
  n : PySem.W.specialIn K (.builtin "object.__class__") "__get__" = some (some (.builtin "getset_descriptor.__get__"))
  t : PySem.W.takesIn K (.builtin "object.__class__") = some true
  m : PySem.W.mroIn K D (.type "object") = some true
theorem exc_check {s : Shared} {nameV : Value} {Q : Unit → Shared → Prop} (X : K.In s.heap) (hx : phE x (.ref D) s.heap) (k : ExcK K D) (h : Q () s) : wpAny (model prog w) A (checkBuiltinCall "BaseException.__getattribute__" ⟨[.ref x, nameV], []⟩) Q E s := by
  obtain ⟨o, ho, hc⟩ := hx
  obtain ⟨hh, g, d, t, os⟩ := s
  have L0 : PySem.W.Looks (model prog w) hh (typeOf (.ref x)) (.ref D) := hc ▸ (PySem.W.Looks.ld ho).andThen .now
  have L6 := PySem.W.looks_mroIn (M := model prog w) X k.b
  have hk : builtinKind "BaseException.__getattribute__" = some .slot := by decide +kernel
  have hsp : splitId "BaseException.__getattribute__" = some ("BaseException", "__getattribute__") := by decide +kernel
  have ha := PySem.F.args_bexc_ga (.ref x) nameV
  simp only [checkBuiltinCall, hk, hsp]
  refine wpAny_bind ?_
  unfold isInstance
  refine wpAny_bind (L0.at ?_)
  refine L6.at ?_
  repeat (any_goals (first | assumption | wp_step))
theorem exc_attr {s : Shared} {Q : Option Value → Shared → Prop} (X : K.In s.heap) (hx : phE x (.ref D) s.heap) (k : ExcK K D) (h : Q (some (.ref D)) { s with toks := s.toks + 1 }) : wpAny (model prog w) A (getAttr? (.ref x) "__class__") Q E s := by
  have hx0 := hx
  obtain ⟨o, ho, hc⟩ := hx
  obtain ⟨hh, g, d, t, os⟩ := s
  have L0 : PySem.W.Looks (model prog w) hh (typeOf (.ref x)) (.ref D) := hc ▸ (PySem.W.Looks.ld ho).andThen .now
  have L1 := PySem.W.looks_findIn (M := model prog w) X k.g
  have L2 := PySem.W.looks_findIn (M := model prog w) X k.g2
  have L3 := PySem.W.looks_findIn (M := model prog w) X k.a
  have L4 := PySem.W.looks_specialIn (M := model prog w) X k.n
  have L5 := PySem.W.looks_takesIn (M := model prog w) X k.t
  have L6 := PySem.W.looks_mroIn (M := model prog w) X k.m
  have L7 : PySem.W.Looks (model prog w) hh (find (.ref x) (.ref D) "__class__") (.bind (.builtin "getset_descriptor.__get__") (.builtin "object.__class__")) :=
    L3.andThen (L4.andThen ((show PySem.W.Looks (model prog w) hh (dataDescriptor? (some (.builtin "object.__class__")) (some (.builtin "getset_descriptor.__get__"))) (some (.builtin "getset_descriptor.__get__", .builtin "object.__class__")) from L5.andThen .now).andThen (Looks.tag .now)))
  have f3 := PySem.F.attr_ValueError.ga.bind (.ref x)
  have hx2 : (Value.builtin "BaseException.__getattribute__" == Value.builtin "object.__getattribute__") = false := by decide +kernel
  unfold getAttr? getAttrBy? getAttrBy
  refine wpAny_bind (wpAny_mkText (wpAny_bind (wpAny_attempt ?_)))
  refine wpAny_holding ?_
  refine wpAny_bind (L0.at ?_)
  refine wpAny_bind (L1.at ?_)
  dsimp only
  rw [if_neg (by rw [hx2, Bool.and_false]; exact Bool.false_ne_true)]
  unfold getAttrByItsOwn hookBefore
  refine wpAny_bind ?_
  rw [if_pos (show onTheHeap (.ref D) = true from rfl)]
  refine L2.at ?_
  refine wpAny_bind (wpAny_attempt ?_)
  refine wpAny_holding ?_
  unfold callGetattribute
  rw [if_neg (by decide)]
  unfold boundAndCalled
  rw [f3]
  refine wpAny_bind (wpAny_pure ?_)
  dsimp only
  refine wpAny_call ?_
  refine codeAny_call_builtin PySem.F.attr_ValueError.ga.plain PySem.F.entry_bexc_ga (exc_check X hx0 k ?_)
  unfold Builtin.«object.__getattribute__»
  iterate 20 lk
  unfold bindTo
  refine wpAny_bind (wpAny_call ?_)
  refine codeAny_call_builtin KF.slot_gs.plain KF.entry_gs (KF.slot_gs.check _ _ _ _ _ _ _ _ KF.type_class (KF.args_gs _ _ _) ?_)
  unfold Builtin.«getset_descriptor.__get__» descrGet
  rw [dga_obj]
  refine wpAny_bind (wpAny_pure ?_)
  unfold descrGetter descrCheckInstance descrNameAndClass isInstance
  simp only [KF.owner_class]
  repeat lk
  refine ⟨Code.quiet_builtin _ (by decide +kernel), codeAny_builtin KF.entry_class ?_⟩
  unfold Builtin.«object.__class__» shownTypeOf
  repeat lk
  first | exact h | skip
theorem kitx_exc (k : ExcK K D) (hcl : (PySem.W.clsIn K D).isSome = true) : PySem.W.KitX K (.ref x) (.ref D) (phE x (.ref D)) where
  ty := fun _ _ _ ⟨o, ho, hc⟩ => hc ▸ (PySem.W.Looks.ld ho).andThen .now
  it := fun _ _ X _ => by
    obtain ⟨cd, hcD⟩ := Option.isSome_iff_exists.mp hcl
    unfold PySem.W.clsIn at hcD
    split at hcD
    · rename_i ho
      intro A' Q' E' s' k q
      unfold isType loadHead
      exact wpAny_bind (wpAny_loadPart (k _ _ (X _ _ ho)) (wpAny_pure q))
    · cases hcD
  ne := fun h tp dd its n sl X htp => by
    obtain ⟨cd, hcD⟩ := Option.isSome_iff_exists.mp hcl
    refine Bool.eq_false_iff.mpr fun q => ?_
    have e : D = tp := Value.ref.inj (beq_iff_eq.mp q)
    subst e
    unfold PySem.W.clsIn at hcD
    split at hcD
    · rename_i ho
      have z := (X _ _ ho).symm.trans htp
      cases z
    · cases hcD
  ca := fun X I q => exc_attr X I k q
end
section
variable {X : Cx} {D : Addr}
theorem cr_isiE (k : ExcK X.K D) (hcl : (PySem.W.clsIn X.K D).isSome = true) : CallR X (.builtin "isinstance") (fun xs H Q => ∃ (ea : Addr) (c : V) (b : Bool) (dct : Option Addr), xs = [.ref ea, c] ∧ H ea = some (.ext (phD ea (.ref D) dct)) ∧ (∀ u, RelV c u → PySem.W.kitOne X.K (.ref D) u = some b) ∧ Q (.bl b) H) := by
  intro pins s σ H xs us Q I r h
  obtain ⟨ea, c, b, dct, rfl, he, kb, h⟩ := h
  cases r with
  | cons r1 r2 =>
    cases r2 with
    | cons r3 r4 =>
      cases r4
      have e1 := r1
      cases e1
      exact PySem.W.kia_one (kitx_exc k hcl) I.kIn (phD.e (I.hok ea _ he).1) (kb _ r3) (by intro q; cases q) fun tk => ⟨.bl _, H, I.tok _, rfl, h⟩
end
end L2
set_option Elab.async false
set_option linter.all false
set_option maxRecDepth 100000
set_option maxHeartbeats 1000000
namespace L2
open PySem PySem.Spec PySem.W PyProof.Rows PySem.Calls PySem.Builtin PySem.Builtin.ObjectAttr
structure XGet (K : PySem.W.Frag) (D : Addr) (attr : Str) : Prop where
  k : ExcK K D
  hd : PySem.W.hasDictIn K D = true
  n : PySem.W.findIn K (.ref D) attr = some none
section
variable {prog : Program} {w : World} {A : Around} {E : Value → Shared → Prop} {K : PySem.W.Frag} {x D dx : Addr} {attr : Str}
theorem exc_field {s : Shared} {Q : Value → Shared → Prop} {m : Str → Option Value} {u : Value} (X : K.In s.heap) (hx : phD x (.ref D) (some dx) s.heap) (g : XGet K D attr) (hn : s.heap.Ns1 dx m) (hm : m attr = some u) (hu : handedIn u = true) (h : Q u { s with toks := s.toks + 1 }) :
    wpAny (model prog w) A (getAttr (.ref x) attr true) Q E s := by
  have hx0 := hx.e
  obtain ⟨o, ho, hc, hdd, hno⟩ := hx
  obtain ⟨od, hod, hl⟩ := lookIn_ns hn
  have J : PySem.W.InstAt s.heap x o D (some od) := ⟨ho, hc, hno, by rw [hdd]; exact hod⟩
  obtain ⟨hh, gg, d, t, os⟩ := s
  have L0 : PySem.W.Looks (model prog w) hh (typeOf (.ref x)) (.ref D) := hc ▸ (PySem.W.Looks.ld ho).andThen .now
  have L1 := PySem.W.looks_findIn (M := model prog w) X g.k.g
  have L2 := PySem.W.looks_findIn (M := model prog w) X g.k.g2
  have L3 := looks_find (M := model prog w) X J (findObj_own g.hd g.n rfl (by rw [hl, hm]))
  have f3 := PySem.F.attr_ValueError.ga.bind (.ref x)
  have hx2 : (Value.builtin "BaseException.__getattribute__" == Value.builtin "object.__getattribute__") = false := by decide +kernel
  unfold getAttr getAttrBy
  refine wpAny_bind (wpAny_mkText (wpAny_holding ?_))
  refine wpAny_bind (L0.at ?_)
  refine wpAny_bind (L1.at ?_)
  dsimp only
  rw [if_neg (by rw [hx2, Bool.and_false]; exact Bool.false_ne_true)]
  unfold getAttrByItsOwn hookBefore
  refine wpAny_bind ?_
  rw [if_pos (show onTheHeap (.ref D) = true from rfl)]
  refine L2.at ?_
  refine wpAny_bind (wpAny_attempt ?_)
  refine wpAny_holding ?_
  unfold callGetattribute
  rw [if_neg (by decide)]
  unfold boundAndCalled
  rw [f3]
  refine wpAny_bind (wpAny_pure ?_)
  dsimp only
  refine wpAny_call ?_
  refine codeAny_call_builtin PySem.F.attr_ValueError.ga.plain PySem.F.entry_bexc_ga (exc_check X hx0 g.k ?_)
  unfold Builtin.«object.__getattribute__»
  refine wpAny_bind (wpAny_pure (wpAny_bind (wpAny_pure (wpAny_bind (L0.at (wpAny_bind (L3.at ?_)))))))
  refine wpAny_pure ?_
  show wpAny _ _ (handedOut u) _ _ _
  rw [handedOut_of hu]
  exact wpAny_pure h
end
section
variable {X : Cx} {D : Addr} {e : Expr} {attr : Str} {pos : Pos} {ta : TE}
end
end L2
set_option Elab.async false
set_option linter.all false
set_option maxRecDepth 100000
set_option maxHeartbeats 1000000
namespace L2
open PySem PySem.Spec PyProof.Rows
theorem count_eqU {y : V} : ∀ {ys : List V} {us : List Value}, Vals ys us → ys.all flatV = true → us.countP (eqU y) = ys.countP (fun z => eqV z y)
  | _, _, .nil, _ => rfl
  | _, _, .cons (a := z) (b := u) r t, h => by
    rw [List.all_cons, Bool.and_eq_true] at h
    rw [List.countP_cons, List.countP_cons, count_eqU t h.2, eqU_of r h.1]
def rCount (K : PySem.W.Frag) : V → List V → Hp → VK → Prop := fun x xs H Q => ∃ (a : Addr) (ys : List V) (y : V), x = V.ref a ∧ xs = [y] ∧ SqL K H a ys ∧ flatV y = true ∧ ys.all flatV = true ∧ Q (.int (ys.countP (fun z => eqV z y) : Nat)) H
theorem mt_lcount {X : Cx} : MtR X "list.count" (rCount X.K) := by
  intro pins s σ H x xs v us Q I rx rxs h
  obtain ⟨a, ys, y, rfl, rfl, hs, fy, fys, q⟩ := h
  cases rx
  cases rxs with
  | cons ry rt =>
    rename_i uy ut
    cases rt
    obtain ⟨its, rv, ⟨⟨cls, dd, data, sl⟩, n, ho, hc, hdn, hd⟩, hlen⟩ := I.list hs
    simp only at hc hd
    subst hc hd
    refine call_meets PySem.F.slot_list_count ⟨_, ho, rfl⟩ PySem.F.entry_list_count (PySem.F.args_list_count_2 _ _) (SeqAt.list_countAt a its.toArray n dd sl uy (eqU y)) ⟨ho, fun u' hu' => mem_eqAt ry fy rv fys u' (by simpa using hu'), ?_⟩
    refine ⟨.int _, H, I.tok _, ?_, q⟩
    rw [show its.toArray.toList = its from rfl, count_eqU rv fys]
    exact ⟨_, rfl⟩
end L2
set_option Elab.async false
set_option linter.all false
set_option maxRecDepth 100000
set_option maxHeartbeats 1000000
namespace L2
open PySem PySem.Spec PyProof.Rows PySem.W
section
variable {X : Cx}
theorem cr_isiG : CallR X (.builtin "isinstance") (fun xs H Q => ∃ (D : Addr) (ea : Addr) (c : V) (b : Bool) (dct : Option Addr), ExcK X.K D ∧ (PySem.W.clsIn X.K D).isSome = true ∧ xs = [.ref ea, c] ∧ H ea = some (.ext (phD ea (.ref D) dct)) ∧ (∀ u, RelV c u → PySem.W.kitOne X.K (.ref D) u = some b) ∧ Q (.bl b) H) := by
  intro pins s σ H xs us Q I r h
  obtain ⟨D, ea, c, b, dct, k, hcl, h⟩ := h
  exact cr_isiE k hcl pins s σ H xs us Q I r ⟨ea, c, b, dct, h⟩
theorem pe_xfieldG {e : Expr} {attr : Str} {pos : Pos} {ta : TE} (he : PE X e ta) (hb : attributeBase e attr X.env (eval e X.env) = eval e X.env := by rfl) :
    PE X (.Attribute e attr pos) (fun σ H Q => ta σ H fun x H1 => ∃ (D : Addr) (ea dx : Addr) (fs : List (Str × V)) (i : Int), XGet X.K D attr ∧ x = .ref ea ∧ H1 ea = some (.ext (phD ea (.ref D) (some dx))) ∧ H1 dx = some (.xd fs) ∧ fs.lookup attr = some (.int i) ∧ Q (.int i) H1) := by
  intro pins s σ H Q I h
  refine attr_of hb (thn (he pins s σ H _ I h) fun u s1 ⟨x, H1, I1, rx, D, ea, dx, fs, i, g, ex, e1, e2, hl, q⟩ => ?_)
  subst ex
  obtain rfl : u = Value.ref ea := rx
  obtain ⟨mA, hns, hr⟩ := I1.hok dx _ e2
  have z := hr attr
  rw [hl] at z
  obtain ⟨v, hv, rv⟩ := RelO.some_of z
  obtain ⟨t, rfl⟩ := (show ∃ t, v = Value.int i t from rv)
  exact exc_field I1.kIn (I1.hok ea _ e1).1 g hns hv rfl ⟨.int i, H1, I1.tok _, ⟨_, rfl⟩, q⟩
end
end L2
set_option Elab.async false
set_option linter.all false
set_option maxRecDepth 100000
set_option maxHeartbeats 2000000
set_option pp.maxSteps 600
set_option pp.deepTerms false
namespace Tm
open PySem L2
inductive Rk where
  | program | word | rooms | fuel | cell | over | text
deriving DecidableEq
def Rk.cls : Rk → Str
  | .program => "BadProgram" | .word => "BadWord" | .rooms => "BadRooms" | .fuel => "BadFuel" | .cell => "BadCell" | .over => "Over" | .text => "BadText"
def Rk.name : Rk → Str
  | .program => "program" | .word => "word" | .rooms => "rooms" | .fuel => "fuel" | .cell => "cell" | .over => "over" | .text => "text"
def Rk.attr : Rk → Option Str
  | .program => some "row" | .word => some "place" | .text => some "line" | _ => none
structure RkK (K : PySem.W.Frag) (CT : Addr) (cs : Rk → Addr) (kd : Rk) : Prop where
  hit : PySem.W.exmOne K (.ref (cs kd)) (.ref CT) = some true
  k : ExcK K (cs kd)
  c : (PySem.W.clsIn K (cs kd)).isSome = true
  b : ∀ kd', PySem.W.kitOne K (.ref (cs kd)) (.ref (cs kd')) = some (decide (kd = kd'))
  vy : PySem.W.kitOne K (.ref (cs kd)) (.type "ValueError") = some true
  fld : ∀ a, kd.attr = some a → XGet K (cs kd) a
structure RkM (mg : Str → Option Value) (CT : Addr) (cs : Rk → Addr) : Prop where
  tag : mg "TagError" = some (.ref CT)
  ve : mg "ValueError" = none
  m : ∀ kd : Rk, mg kd.cls = some (.ref (cs kd))
def FldAt (kd : Rk) (i : Int) (dct : Option Addr) (H : Hp) : Prop := (kd.attr = none ∧ i = 0) ∨ ∃ a dx, kd.attr = some a ∧ dct = some dx ∧ H dx = some (.xd [(a, .int i)])
abbrev s_law_word : Stmt := top 41
abbrev N_law_word : List Str := ["_law_work", "e", "_law_kinds", "_law_word_here"]
abbrev P_law_word : List Str := ["_law_work"]
theorem sc_law_word : FnScope N_law_word P_law_word (defScope s_law_word) := ⟨rfl, rfl, rfl, by decide +kernel, rfl, by decide +kernel, by decide +kernel⟩
section
variable {P : Program} {w : World} {K : PySem.W.Frag} {mg : Str → Option Value} {base : Heap}
end
end Tm
set_option Elab.async false
set_option linter.all false
set_option maxRecDepth 100000
set_option maxHeartbeats 2000000
set_option pp.maxSteps 600
set_option pp.deepTerms false
namespace Tm
open PySem L2
def spWordC (P : Program) (w : World) (K : PySem.W.Frag) (mg : Str → Option Value) (base : Heap) (k : Nat) (cs : Rk → Addr) (us : Rk → Bool) (clos : List (Str × Addr)) (fr : List Str) (ws : List V) : Sp := fun vs H Q _ => ∃ (f : Addr) (spA : Hp → VK → XK → Prop) (Rn : Hp → Prop) (Re : Rk → Int → Hp → Prop), vs = [.ref f] ∧ LamOkC P w K mg base k f (fun h H outer => CellsAt h H outer clos fr ws) spA ∧
  (∀ Q' E', (∀ v H', Rn H' → Q' v H') → (∀ kd i dct H', us kd = true → Re kd i H' → FldAt kd i dct H' → E' (.ref (cs kd)) dct H') → spA H Q' E') ∧
  (∀ H', Rn H' → Q .non H') ∧ ∀ kd i H' t H'', us kd = true → Re kd i H' → Same H' H'' → H'' t = some (.tup [.str kd.name, .int i]) → Q (.ref t) H''
section
variable {P : Program} {w : World} {K : PySem.W.Frag} {mg : Str → Option Value} {base : Heap}
theorem ok_wordC {clos : List (Str × Addr)} {fr : List Str} {ws : List V} {f CT : Addr} {fd : FuncData} {cs : Rk → Addr} {us : Rk → Bool} {k : Nat} (F : Fun K "_law_word" "_law_word" s_law_word f fd) (T : Tx mg) (KM : RkM mg CT cs) (KK : ∀ kd, us kd = true → RkK K CT cs kd) : FnOkC P w K mg base (k + 2) f fd P_law_word (fun h H outer => CellsAt h H outer clos fr ws) (spWordC P w K mg base (k + 1) cs us clos fr ws) := by
  have sc := sc_law_word
  refine F.okC sc (fun vs H Q E h => ?_) (fun cdv A outer s H vs Q E hr hC h => ?_)
  · obtain ⟨fw, spA, Rn, Re, rfl, _⟩ := h
    rfl
  obtain ⟨fw, spA, Rn, Re, rfl, L, hA, kn, kx⟩ := h
  have hu := hu_of hr
  have hu64 := hr.units
  have hcl : ∀ pins s' σ H', Inv (cxOf CX0 P w K mg base N_law_word "_law_word" (defScope s_law_word) f cdv A outer s H E).nox pins σ H' s' → CellsAt s'.heap H' (cxOf CX0 P w K mg base N_law_word "_law_word" (defScope s_law_word) f cdv A outer s H E).nox.stack clos fr ws := fun pins s' σ H' I => CellsAt.inside hC rfl I
  refine ⟨_, ((pss_cons (ps_try (i := 1) KM.tag sc.nd rfl rfl ⟨rfl, rfl⟩ (fun ps W => (pss_one (ps_expr (qcallLamC (i := 0) (Cd := fun h H outer => CellsAt h H outer clos fr ws) hcl (by first | exact hr | exact hr.mono (by omega)))))) (fun ea => (pss_cons (ps_set (i := 2) sc.nd rfl (by first | exact Or.inl rfl | exact Or.inr rfl) (pe_lst (pa_cons (pe_callB cr_isiG (by rfl) T.isinstance (by decide +kernel) (pa_cons (qv 1) (pa_cons (pe_globR (KM.m .program)) pa_nil))) (pa_cons (pe_callB cr_isiG (by rfl) T.isinstance (by decide +kernel) (pa_cons (qv 1) (pa_cons (pe_globR (KM.m .word)) pa_nil))) (pa_cons (pe_callB cr_isiG (by rfl) T.isinstance (by decide +kernel) (pa_cons (qv 1) (pa_cons (pe_globR (KM.m .rooms)) pa_nil))) (pa_cons (pe_callB cr_isiG (by rfl) T.isinstance (by decide +kernel) (pa_cons (qv 1) (pa_cons (pe_globR (KM.m .fuel)) pa_nil))) pa_nil))))))
  (pss_cons (ps_set (i := 2) sc.nd rfl (by first | exact Or.inl rfl | exact Or.inr rfl) (pe_op (oq_add K) (qv 2) (pe_lst (pa_cons (pe_callB cr_isiG (by rfl) T.isinstance (by decide +kernel) (pa_cons (qv 1) (pa_cons (pe_globR (KM.m .cell)) pa_nil))) (pa_cons (pe_callB cr_isiG (by rfl) T.isinstance (by decide +kernel) (pa_cons (qv 1) (pa_cons (pe_globR (KM.m .over)) pa_nil))) (pa_cons (pe_callB cr_isiG (by rfl) T.isinstance (by decide +kernel) (pa_cons (qv 1) (pa_cons (pe_globR (KM.m .text)) pa_nil))) pa_nil))))))
  (pss_cons (ps_if (PW.pt (pw_or (pt_cmpR (oq_ne K hu64) (pe_bm PySem.F.plainAttrs_list PySem.F.slot_list_count PySem.F.type_list_count mt_lcount (qv 2) (pa_cons pe_bl pa_nil)) pe_int (nomark _)) (pw_or1 (pt_not (pt_val (pe_callB cr_isiG (by rfl) T.isinstance (by decide +kernel) (pa_cons (qv 1) (pa_cons (pe_bltn (v := .ty "ValueError") (by rfl) KM.ve (by decide +kernel) rfl) pa_nil))))))))
  (pss_one (ps_ret (pe_tup (pa_lits [.str "other", .int 0] (by decide +kernel)))))
  pss_nil)
  (pss_cons (ps_set (i := 3) sc.nd rfl (by first | exact Or.inl rfl | exact Or.inr rfl) (pe_ix (iq K hu) (pe_lst (pa_lits [.str "program", .str "word", .str "rooms", .str "fuel", .str "cell", .str "over", .str "text"] (by decide +kernel))) (pe_bm PySem.F.plainAttrs_list PySem.F.slot_list_index PySem.F.type_list_index mt_index (qv 2) (pa_cons pe_bl pa_nil)) (fun _ _ => rfl)))
  (pss_cons (ps_if (pt_cmpR (oq_eq K hu64) (qv 3) pe_str (nomark _))
  (pss_one (ps_ret (pe_tup (pa_cons (qv 3) (pa_cons (pe_xfieldG (qv 1)) pa_nil)))))
  pss_nil)
  (pss_cons (ps_if (pt_cmpR (oq_eq K hu64) (qv 3) pe_str (nomark _))
  (pss_one (ps_ret (pe_tup (pa_cons (qv 3) (pa_cons (pe_xfieldG (qv 1)) pa_nil)))))
  pss_nil)
  (pss_one (ps_ret (pe_tup (pa_cons (qv 3) (pa_cons (pe_ifExp (pt_cmpR (oq_eq K hu64) (qv 3) pe_str (nomark _)) (pe_xfieldG (qv 1)) pe_int) pa_nil)))))))))))))
  (pss_one (ps_ret pe_non))) : PSs ((cxOf CX0 P w K mg base N_law_word "_law_word" (defScope s_law_word) f cdv A outer s H E).nox) (_ :: _) _), ?_⟩
  refine ⟨fw, spA, rfl, L, hA _ _ (fun v H' hn => kn H' hn) (fun kd i dct H0 ukd hre fl => ?_)⟩
  have kk := KK kd ukd
  refine ⟨kk.hit, fun ea nea => ?_⟩
  have s0 := same_new nea (.ext (phD ea (.ref (cs kd)) dct))
  have he : upd H0 ea (.ext (phD ea (.ref (cs kd)) dct)) ea = some (.ext (phD ea (.ref (cs kd)) dct)) := upd_same
  have fl0 : FldAt kd i dct (upd H0 ea (.ext (phD ea (.ref (cs kd)) dct))) := by
    rcases fl with fl | ⟨a, dx, e1, e2, e3⟩
    · exact .inl fl
    · exact .inr ⟨a, dx, e1, e2, s0 _ _ e3⟩
  generalize upd H0 ea (.ext (phD ea (.ref (cs kd)) dct)) = H1 at s0 he fl0
  refine ⟨cs kd, ea, _, _, dct, kk.k, kk.c, rfl, he, fun u r => (by cases r; exact kk.b .program), ?_⟩
  refine ⟨cs kd, ea, _, _, dct, kk.k, kk.c, rfl, he, fun u r => (by cases r; exact kk.b .word), ?_⟩
  refine ⟨cs kd, ea, _, _, dct, kk.k, kk.c, rfl, he, fun u r => (by cases r; exact kk.b .rooms), ?_⟩
  refine ⟨cs kd, ea, _, _, dct, kk.k, kk.c, rfl, he, fun u r => (by cases r; exact kk.b .fuel), ?_⟩
  refine ⟨(by show 4 ≤ sizeLine; decide), fun l1 h1 => ?_⟩
  have s1 := same_new h1 (.lst [.bl (decide (kd = .program)), .bl (decide (kd = .word)), .bl (decide (kd = .rooms)), .bl (decide (kd = .fuel))])
  have e1 := upd_same (H := H1) (a := l1) (o := .lst [.bl (decide (kd = .program)), .bl (decide (kd = .word)), .bl (decide (kd = .rooms)), .bl (decide (kd = .fuel))])
  have he := s1 _ _ he
  generalize upd H1 l1 (.lst [.bl (decide (kd = .program)), .bl (decide (kd = .word)), .bl (decide (kd = .rooms)), .bl (decide (kd = .fuel))]) = H2 at s1 e1 he
  refine ⟨cs kd, ea, _, _, dct, kk.k, kk.c, rfl, he, fun u r => (by cases r; exact kk.b .cell), ?_⟩
  refine ⟨cs kd, ea, _, _, dct, kk.k, kk.c, rfl, he, fun u r => (by cases r; exact kk.b .over), ?_⟩
  refine ⟨cs kd, ea, _, _, dct, kk.k, kk.c, rfl, he, fun u r => (by cases r; exact kk.b .text), ?_⟩
  refine ⟨(by show 3 ≤ sizeLine; decide), fun l2 h2 => ?_⟩
  have s2 := same_new h2 (.lst [.bl (decide (kd = .cell)), .bl (decide (kd = .over)), .bl (decide (kd = .text))])
  have e2 := upd_same (H := H2) (a := l2) (o := .lst [.bl (decide (kd = .cell)), .bl (decide (kd = .over)), .bl (decide (kd = .text))])
  have he := s2 _ _ he
  have e1 := s2 _ _ e1
  generalize upd H2 l2 (.lst [.bl (decide (kd = .cell)), .bl (decide (kd = .over)), .bl (decide (kd = .text))]) = H3 at s2 e1 e2 he
  refine .inl ⟨_, _, _, _, rfl, rfl, e1, e2, Nat.le_of_lt (small1000 (by show 4 + 3 ≤ 1000; decide)), fun l3 h3 => ?_⟩
  have s3 := same_new h3 (.lst ([.bl (decide (kd = .program)), .bl (decide (kd = .word)), .bl (decide (kd = .rooms)), .bl (decide (kd = .fuel))] ++ [.bl (decide (kd = .cell)), .bl (decide (kd = .over)), .bl (decide (kd = .text))]))
  have e3 : upd H3 l3 (.lst ([.bl (decide (kd = .program)), .bl (decide (kd = .word)), .bl (decide (kd = .rooms)), .bl (decide (kd = .fuel))] ++ [.bl (decide (kd = .cell)), .bl (decide (kd = .over)), .bl (decide (kd = .text))])) l3 = some (.lst [.bl (decide (kd = .program)), .bl (decide (kd = .word)), .bl (decide (kd = .rooms)), .bl (decide (kd = .fuel)), .bl (decide (kd = .cell)), .bl (decide (kd = .over)), .bl (decide (kd = .text))]) := upd_same
  have he := s3 _ _ he
  generalize upd H3 l3 (.lst ([.bl (decide (kd = .program)), .bl (decide (kd = .word)), .bl (decide (kd = .rooms)), .bl (decide (kd = .fuel))] ++ [.bl (decide (kd = .cell)), .bl (decide (kd = .over)), .bl (decide (kd = .text))])) = H4 at s3 e3 he
  have S := ((s0.trans s1).trans s2).trans s3
  have fl4 : FldAt kd i dct H4 := by
    rcases fl0 with fl | ⟨a, dx, z1, z2, z3⟩
    · exact .inl fl
    · exact .inr ⟨a, dx, z1, z2, s3 _ _ (s2 _ _ (s1 _ _ z3))⟩
  clear s0 s1 s2 s3 e1 e2 h1 h2 h3 fl fl0
  have tl : ∀ {H' : Hp} {bs : List V}, H' l3 = some (.lst bs) → tyV K "list" (.ref l3) H' := fun {H' bs} e => .inl ⟨rfl, _, SqL.of e⟩
  refine ⟨tl e3, ?_⟩
  refine ⟨l3, _, .bl true, rfl, rfl, SqL.of e3, rfl, rfl, ?_⟩
  have cnt : ([V.bl (decide (kd = .program)), .bl (decide (kd = .word)), .bl (decide (kd = .rooms)), .bl (decide (kd = .fuel)), .bl (decide (kd = .cell)), .bl (decide (kd = .over)), .bl (decide (kd = .text))].countP fun z => eqV z (.bl true)) = 1 := by
    cases kd <;> decide +kernel
  rw [cnt]
  refine ⟨rfl, _, rfl, iteF' (by decide +kernel) ?_⟩
  refine ⟨cs kd, ea, .ty "ValueError", true, dct, kk.k, kk.c, rfl, he, fun u r => (by cases r; exact kk.vy), ?_⟩
  refine ⟨_, rfl, ?_⟩
  refine iteF ?_
  refine ⟨(by show 7 ≤ sizeLine; decide), fun l4 h4 => ?_⟩
  have s4 := same_new h4 (.lst [.str "program", .str "word", .str "rooms", .str "fuel", .str "cell", .str "over", .str "text"])
  have e4 := upd_same (H := H4) (a := l4) (o := .lst [.str "program", .str "word", .str "rooms", .str "fuel", .str "cell", .str "over", .str "text"])
  have e3 := s4 _ _ e3
  have he := s4 _ _ he
  have S := S.trans s4
  have fl5 : FldAt kd i dct (upd H4 l4 (.lst [.str "program", .str "word", .str "rooms", .str "fuel", .str "cell", .str "over", .str "text"])) := by
    rcases fl4 with fl | ⟨a, dx, z1, z2, z3⟩
    · exact .inl fl
    · exact .inr ⟨a, dx, z1, z2, s4 _ _ z3⟩
  generalize upd H4 l4 (.lst [.str "program", .str "word", .str "rooms", .str "fuel", .str "cell", .str "over", .str "text"]) = H5 at e3 e4 S he fl5
  clear s4 h4 fl4 cnt
  have done : ∀ p H6, Same H5 H6 → H6 p = some (.tup [.str kd.name, .int i]) → Q (.ref p) H6 := fun p H6 s6 e6 => kx kd i H0 p H6 ukd hre (S.trans s6) e6
  clear S hre L hA kn kx
  rcases fl5 with ⟨na, rfl⟩ | ⟨a, dx, ea1, rfl, hdx⟩
  · cases kd with
    | program =>
      cases na
    | word =>
      cases na
    | rooms =>
      refine ⟨tl e3, l3, _, .bl true, 2, .bl true, rfl, rfl, SqL.of e3, rfl, rfl, rfl, rfl, fun m z' hm e => ?_, ?_⟩
      · obtain rfl | rfl : m = 0 ∨ m = 1 := by omega
        · cases e; rfl
        · cases e; rfl
      refine .inl ⟨_, _, SqL.of e4, rfl, ?_⟩
      refine ⟨rfl, _, rfl, iteF' (by decide +kernel) ?_⟩
      refine ⟨rfl, _, rfl, iteF' (by decide +kernel) ?_⟩
      refine ⟨rfl, _, rfl, iteF' (by decide +kernel) ?_⟩
      refine ⟨(by show 2 ≤ sizeLine; decide), fun p hp => ?_⟩
      exact done p _ (same_new hp _) upd_same
    | fuel =>
      refine ⟨tl e3, l3, _, .bl true, 3, .bl true, rfl, rfl, SqL.of e3, rfl, rfl, rfl, rfl, fun m z' hm e => ?_, ?_⟩
      · obtain rfl | rfl | rfl : m = 0 ∨ m = 1 ∨ m = 2 := by omega
        · cases e; rfl
        · cases e; rfl
        · cases e; rfl
      refine .inl ⟨_, _, SqL.of e4, rfl, ?_⟩
      refine ⟨rfl, _, rfl, iteF' (by decide +kernel) ?_⟩
      refine ⟨rfl, _, rfl, iteF' (by decide +kernel) ?_⟩
      refine ⟨rfl, _, rfl, iteF' (by decide +kernel) ?_⟩
      refine ⟨(by show 2 ≤ sizeLine; decide), fun p hp => ?_⟩
      exact done p _ (same_new hp _) upd_same
    | cell =>
      refine ⟨tl e3, l3, _, .bl true, 4, .bl true, rfl, rfl, SqL.of e3, rfl, rfl, rfl, rfl, fun m z' hm e => ?_, ?_⟩
      · obtain rfl | rfl | rfl | rfl : m = 0 ∨ m = 1 ∨ m = 2 ∨ m = 3 := by omega
        · cases e; rfl
        · cases e; rfl
        · cases e; rfl
        · cases e; rfl
      refine .inl ⟨_, _, SqL.of e4, rfl, ?_⟩
      refine ⟨rfl, _, rfl, iteF' (by decide +kernel) ?_⟩
      refine ⟨rfl, _, rfl, iteF' (by decide +kernel) ?_⟩
      refine ⟨rfl, _, rfl, iteF' (by decide +kernel) ?_⟩
      refine ⟨(by show 2 ≤ sizeLine; decide), fun p hp => ?_⟩
      exact done p _ (same_new hp _) upd_same
    | over =>
      refine ⟨tl e3, l3, _, .bl true, 5, .bl true, rfl, rfl, SqL.of e3, rfl, rfl, rfl, rfl, fun m z' hm e => ?_, ?_⟩
      · obtain rfl | rfl | rfl | rfl | rfl : m = 0 ∨ m = 1 ∨ m = 2 ∨ m = 3 ∨ m = 4 := by omega
        · cases e; rfl
        · cases e; rfl
        · cases e; rfl
        · cases e; rfl
        · cases e; rfl
      refine .inl ⟨_, _, SqL.of e4, rfl, ?_⟩
      refine ⟨rfl, _, rfl, iteF' (by decide +kernel) ?_⟩
      refine ⟨rfl, _, rfl, iteF' (by decide +kernel) ?_⟩
      refine ⟨rfl, _, rfl, iteF' (by decide +kernel) ?_⟩
      refine ⟨(by show 2 ≤ sizeLine; decide), fun p hp => ?_⟩
      exact done p _ (same_new hp _) upd_same
    | text =>
      cases na
  · cases kd with
    | program =>
      cases ea1
      refine ⟨tl e3, l3, _, .bl true, 0, .bl true, rfl, rfl, SqL.of e3, rfl, rfl, rfl, rfl, fun m z' hm e => ?_, ?_⟩
      · omega
      refine .inl ⟨_, _, SqL.of e4, rfl, ?_⟩
      refine ⟨rfl, _, rfl, iteF' (by decide +kernel) ?_⟩
      refine ⟨rfl, _, rfl, iteT' (by decide +kernel) ?_⟩
      refine ⟨_, ea, dx, _, i, kk.fld _ rfl, rfl, he, hdx, rfl, ?_⟩
      refine ⟨(by show 2 ≤ sizeLine; decide), fun p hp => ?_⟩
      exact done p _ (same_new hp _) upd_same
    | word =>
      cases ea1
      refine ⟨tl e3, l3, _, .bl true, 1, .bl true, rfl, rfl, SqL.of e3, rfl, rfl, rfl, rfl, fun m z' hm e => ?_, ?_⟩
      · obtain rfl : m = 0 := by omega
        cases e; rfl
      refine .inl ⟨_, _, SqL.of e4, rfl, ?_⟩
      refine ⟨rfl, _, rfl, iteT' (by decide +kernel) ?_⟩
      refine ⟨_, ea, dx, _, i, kk.fld _ rfl, rfl, he, hdx, rfl, ?_⟩
      refine ⟨(by show 2 ≤ sizeLine; decide), fun p hp => ?_⟩
      exact done p _ (same_new hp _) upd_same
    | rooms =>
      cases ea1
    | fuel =>
      cases ea1
    | cell =>
      cases ea1
    | over =>
      cases ea1
    | text =>
      cases ea1
      refine ⟨tl e3, l3, _, .bl true, 6, .bl true, rfl, rfl, SqL.of e3, rfl, rfl, rfl, rfl, fun m z' hm e => ?_, ?_⟩
      · obtain rfl | rfl | rfl | rfl | rfl | rfl : m = 0 ∨ m = 1 ∨ m = 2 ∨ m = 3 ∨ m = 4 ∨ m = 5 := by omega
        · cases e; rfl
        · cases e; rfl
        · cases e; rfl
        · cases e; rfl
        · cases e; rfl
        · cases e; rfl
      refine .inl ⟨_, _, SqL.of e4, rfl, ?_⟩
      refine ⟨rfl, _, rfl, iteF' (by decide +kernel) ?_⟩
      refine ⟨rfl, _, rfl, iteF' (by decide +kernel) ?_⟩
      refine ⟨rfl, _, rfl, iteT' (by decide +kernel) ?_⟩
      refine ⟨_, ea, dx, _, i, kk.fld _ rfl, rfl, he, hdx, rfl, ?_⟩
      refine ⟨(by show 2 ≤ sizeLine; decide), fun p hp => ?_⟩
      exact done p _ (same_new hp _) upd_same
end
end Tm
set_option Elab.async false
set_option linter.all false
set_option maxRecDepth 100000
set_option maxHeartbeats 1000000
namespace Tm
open PySem L2
def isNum (v : V) : Prop := ∃ n : Int, v = .int n ∧ -10000 ≤ n ∧ n ≤ 9999
abbrev s_law_number : Stmt := top 42
abbrev N_law_number : List Str := ["_law_row_here", "_law_way"]
abbrev P_law_number : List Str := ["_law_row_here"]
theorem sc_law_number : FnScope N_law_number P_law_number (defScope s_law_number) := ⟨rfl, rfl, rfl, by decide +kernel, rfl, by decide +kernel, by decide +kernel⟩
section
variable {P : Program} {w : World} {K : PySem.W.Frag} {mg : Str → Option Value} {base : Heap}
theorem ok_number {f : Addr} {fd : FuncData} (F : Fun K "_law_number" "_law_number" s_law_number f fd) (D_law_taken : Df P w K mg base 1 "_law_taken" P_law_taken [] (spTaken K)) : FnOk P w K mg base CX0 2 f fd P_law_number (spDraw K fun v _ => isNum v) := by
  have sc := sc_law_number
  refine F.ok sc (fun vs H Q E h => ?_) (fun cdv A outer s H vs Q E hr h => ?_)
  · obtain ⟨R, rfl, _⟩ := h
    rfl
  obtain ⟨R, rfl, r0, k⟩ := h
  have hu := hu_of hr
  refine ⟨_, ((pss_cons (ps_set (i := 1) sc.nd rfl (by first | exact Or.inl rfl | exact Or.inr rfl) (qcall D_law_taken (by first | exact hr | exact hr.mono (by omega)) (pa_cons (qv 0) (pa_cons pe_int pa_nil))))
  (pss_cons (ps_if (pt_cmpR oq_lt (qv 1) pe_int (nomark _))
  (pss_one (ps_ret (pe_ix (iq K hu) (pe_lst (pa_cons (qcall D_law_taken (by first | exact hr | exact hr.mono (by omega)) (pa_cons (qv 0) (pa_cons pe_int pa_nil))) (pa_cons (qcall D_law_taken (by first | exact hr | exact hr.mono (by omega)) (pa_cons (qv 0) (pa_cons pe_int pa_nil))) (pa_cons (pe_op oq_sub (qcall D_law_taken (by first | exact hr | exact hr.mono (by omega)) (pa_cons (qv 0) (pa_cons pe_int pa_nil))) pe_int) (pa_cons pe_int pa_nil))))) (qv 1) (fun _ _ => rfl))))
  pss_nil)
  (pss_one (ps_ret (pe_ix (iq K hu) (pe_lst (pa_cons (pe_op oq_sub (qcall D_law_taken (by first | exact hr | exact hr.mono (by omega)) (pa_cons (qv 0) (pa_cons pe_int pa_nil))) pe_int) (pa_cons (pe_ix (iq K hu) (pe_lst (pa_cons pe_int (pa_cons (pe_op oq_sub pe_int pe_int) pa_nil))) (qcall D_law_taken (by first | exact hr | exact hr.mono (by omega)) (pa_cons (qv 0) (pa_cons pe_int pa_nil))) (fun _ _ => rfl)) pa_nil))) (pe_op oq_sub (qv 1) pe_int) (fun _ _ => rfl)))))) : PSs _ (_ :: _) _), ?_⟩
  refine ⟨R, 6, rfl, r0, by decide, by decide, fun n H1 h0 h1 o1 => ?_⟩
  refine ⟨_, rfl, ?_⟩
  refine ite2 (fun c => ?_) (fun c => ?_)
  · have c' : n < 4 := of_decide_eq_true c
    refine ⟨R, 5, rfl, o1.row, by decide, by decide, fun n2 H2 h20 h21 o2 => ?_⟩
    refine ⟨R, 70, rfl, o2.row, by decide, by decide, fun n3 H3 h30 h31 o3 => ?_⟩
    refine ⟨R, 40, rfl, o3.row, by decide, by decide, fun n4 H4 h40 h41 o4 => ?_⟩
    refine ⟨(by decide : 4 ≤ sizeLine), fun p hp => ?_⟩
    have on := (((o1.trans o2).trans o3).trans o4).new hp (.lst [.int n2, .int n3, .int (n4 - 20), .int 1])
    obtain rfl | rfl | rfl | rfl : n = 0 ∨ n = 1 ∨ n = 2 ∨ n = 3 := by omega
    · exact .inl ⟨_, _, SqL.of upd_same, rfl, k _ _ on ⟨_, rfl, by omega, by omega⟩⟩
    · exact .inl ⟨_, _, SqL.of upd_same, rfl, k _ _ on ⟨_, rfl, by omega, by omega⟩⟩
    · exact .inl ⟨_, _, SqL.of upd_same, rfl, k _ _ on ⟨_, rfl, by omega, by omega⟩⟩
    · exact .inl ⟨_, _, SqL.of upd_same, rfl, k _ _ on ⟨_, rfl, by omega, by omega⟩⟩
  · have c' : ¬ n < 4 := fun z => c (decide_eq_true z)
    refine ⟨R, 20000, rfl, o1.row, by decide, by decide, fun n2 H2 h20 h21 o2 => ?_⟩
    refine ⟨(by decide : 2 ≤ sizeLine), fun p hp => ?_⟩
    have o2' := o2.new hp (.lst [.int 9999, .int (0 - 10000)])
    have e2 : upd H2 p (.lst [.int 9999, .int (0 - 10000)]) p = _ := upd_same
    refine ⟨R, 2, rfl, o2'.row, by decide, by decide, fun n3 H3 h30 h31 o3 => ?_⟩
    have e3 := o3.at e2 (o2.row.ne hp)
    obtain ⟨v3, a3, b3⟩ : ∃ v3, atI [V.int 9999, V.int (0 - 10000)] n3 = some v3 ∧ isNum v3 := by
      obtain rfl | rfl : n3 = 0 ∨ n3 = 1 := by omega
      · exact ⟨_, rfl, _, rfl, by omega, by omega⟩
      · exact ⟨_, rfl, _, rfl, by omega, by omega⟩
    refine .inl ⟨_, _, SqL.of e3, a3, ?_⟩
    refine ⟨(by decide : 2 ≤ sizeLine), fun p' hp' => ?_⟩
    have on := ((o1.trans o2').trans o3).new hp' (.lst [.int (n2 - 10000), v3])
    obtain rfl | rfl : n = 4 ∨ n = 5 := by omega
    · exact .inl ⟨_, _, SqL.of upd_same, rfl, k _ _ on ⟨_, rfl, by omega, by omega⟩⟩
    · exact .inl ⟨_, _, SqL.of upd_same, rfl, k _ _ on b3⟩
end
end Tm
set_option Elab.async false
set_option linter.all false
set_option maxRecDepth 100000
set_option maxHeartbeats 1000000
namespace Tm
open PySem L2
def isRights (v : V) : Prop := ∃ r, v = .str r ∧ RightsOk r
abbrev s_law_rights : Stmt := top 43
abbrev N_law_rights : List Str := ["_law_row_here", "_law_often", "_law_sign"]
abbrev P_law_rights : List Str := ["_law_row_here"]
theorem sc_law_rights : FnScope N_law_rights P_law_rights (defScope s_law_rights) := ⟨rfl, rfl, rfl, by decide +kernel, rfl, by decide +kernel, by decide +kernel⟩
section
variable {P : Program} {w : World} {K : PySem.W.Frag} {mg : Str → Option Value} {base : Heap}
theorem ok_rights {f : Addr} {fd : FuncData} (F : Fun K "_law_rights" "_law_rights" s_law_rights f fd) (T : Tx mg) (D_law_taken : Df P w K mg base 1 "_law_taken" P_law_taken [] (spTaken K)) : FnOk P w K mg base CX0 2 f fd P_law_rights (spDraw K fun v _ => isRights v) := by
  have sc := sc_law_rights
  refine F.ok sc (fun vs H Q E h => ?_) (fun cdv A outer s H vs Q E hr h => ?_)
  · obtain ⟨R, rfl, _⟩ := h
    rfl
  obtain ⟨R, rfl, r0, k⟩ := h
  have hu := hu_of hr
  refine ⟨_, ((pss_cons (ps_set (i := 1) sc.nd rfl (by first | exact Or.inl rfl | exact Or.inr rfl) (pe_ix (iq K hu) (pe_lst (pa_lits [.int 4, .int 9, .int 2] (by decide +kernel))) (qcall D_law_taken (by first | exact hr | exact hr.mono (by omega)) (pa_cons (qv 0) (pa_cons pe_int pa_nil))) (fun _ _ => rfl)))
  (pss_one (ps_ret (pe_join pe_str (pe_lc (own := [("_law_sign", 2)]) (g := gName 2) (by rfl) sc.nd (pi_str pe_str) (blkOk_by (own := [("_law_sign", 2)]) (N := N_law_rights) (sc := defScope s_law_rights) (by decide +kernel)) (fun _ _ _ _ _ => (pg_name (i := 2) sc.nd rfl (by first | exact Or.inl rfl | exact Or.inr rfl))) (fun _ _ _ _ _ => (pts_one (pt_cmpR oq_gt (qcall D_law_taken (by first | exact hr | exact hr.mono (by omega)) (pa_cons (qv 0) (pa_cons (qv 1) pa_nil))) pe_int (nomark _)))) (fun _ _ _ _ _ => (qv 2))))))) : PSs _ (_ :: _) _), ?_⟩
  refine ⟨(by decide : 3 ≤ sizeLine), fun p hp => ?_⟩
  have s1 := same_new hp (.lst [.int 4, .int 9, .int 2])
  refine ⟨R, 3, rfl, r0.same s1, by decide, by decide, fun n H1 h0 h1 o1 => ?_⟩
  have e1 : H1 p = some (.lst [.int 4, .int 9, .int 2]) := o1.at upd_same (r0.ne hp)
  obtain ⟨m, em, hm⟩ : ∃ m : Int, atI [V.int 4, .int 9, .int 2] n = some (.int m) ∧ 0 < m ∧ m < 10 := by
    obtain rfl | rfl | rfl : n = 0 ∨ n = 1 ∨ n = 2 := by omega
    · exact ⟨4, rfl, by decide, by decide⟩
    · exact ⟨9, rfl, by decide, by decide⟩
    · exact ⟨2, rfl, by decide, by decide⟩
  refine .inl ⟨_, _, SqL.of e1, em, ?_⟩
  refine ⟨⟨_, rfl⟩, _, rfl, fun D hD => ?_⟩
  have nD := o1.row.ne hD
  have hg : ∀ i : Nat, (Str.ofString "ghls").cps[i]? = ([103, 104, 108, 115] : List Nat)[i]? := fun i => by
    have e : (Str.ofString "ghls").cps = #[103, 104, 108, 115] := by decide +kernel
    rw [e]
    simp
  refine lc_by (n := 4) (fun i H2 => On K R H1 H2 ∧ ∃ cs : List Nat, H2 D = some (.lst (cs.map fun c => V.str ⟨#[c]⟩)) ∧ cs.length ≤ i ∧ cs.Sublist ([103, 104, 108, 115].take i)) ⟨(On.refl o1.row).new hD _, [], upd_same, Nat.le_refl _, List.Sublist.refl _⟩ (fun i H2 hi _ => hi) (fun H2 _ => Nat.le_refl 4) ?_ ?_
  · rintro i H2 x H2' hi ⟨o2, cs, hc, hl, hsub⟩ ⟨rfl, c, hx, rfl⟩
    refine ⟨rfl, ?_⟩
    refine ⟨R, m, rfl, o2.row, by omega, by omega, fun n3 H3 h30 h31 o3 => ?_⟩
    have hc3 := o3.at hc nD
    have hx' : ([103, 104, 108, 115] : List Nat)[i]? = some c := (hg i).symm.trans hx
    have ht : ([103, 104, 108, 115] : List Nat).take (i + 1) = ([103, 104, 108, 115] : List Nat).take i ++ [c] := by
      rw [List.take_succ, hx']
      rfl
    refine ⟨_, rfl, ite2 (fun _ => ?_) (fun _ => ?_)⟩
    · refine ⟨_, hc3, small1000 (by rw [List.length_map]; omega), (o2.trans o3).fill hD nD (soft_lst hc3) _, cs ++ [c], ?_, ?_, ?_⟩
      · rw [upd_same, List.map_append]
        rfl
      · rw [List.length_append, List.length_singleton]
        omega
      · rw [ht]
        exact List.Sublist.append hsub (List.Sublist.refl _)
    · exact ⟨o2.trans o3, cs, hc3, by omega, by rw [ht]; exact hsub.trans (List.sublist_append_left _ _)⟩
  · rintro H2 ⟨o2, cs, hc, hl, hsub⟩
    refine ⟨_, D, cs.map fun c => (⟨#[c]⟩ : Str), rfl, rfl, .inl (SqL.of (by rw [List.map_map]; exact hc)), ?_, ?_⟩
    · have e : ((cs.map fun c => (⟨#[c]⟩ : Str)).map (·.length)).sum = cs.length := by
        clear hc hl hsub
        induction cs with
        | nil => rfl
        | cons c cs ih =>
          rw [List.map_cons, List.map_cons, List.sum_cons, ih, List.length_cons]
          show 1 + cs.length = cs.length + 1
          omega
      rw [e, List.length_map, show (Str.ofString "").length = 0 from rfl, Nat.mul_zero]
      omega
    · refine k _ _ ((((On.refl r0).new hp _).trans o1).trans o2) ⟨_, rfl, ?_⟩
      unfold RightsOk
      rw [join_signs]
      exact hsub
end
end Tm
set_option Elab.async false
set_option linter.all false
set_option maxRecDepth 100000
set_option maxHeartbeats 1000000
set_option pp.maxSteps 600
set_option pp.deepTerms false
namespace Tm
open PySem L2
def spRow (K : PySem.W.Frag) : Sp := fun vs H Q _ => ∃ (R : Addr) (at_ rows : Int), vs = [.ref R, .int at_, .int rows] ∧ RowAt K H R ∧ 0 ≤ at_ ∧ at_ < rows ∧ rows ≤ 1000 ∧
  ∀ (v : V) (H' : Hp) (x : Rw), On K R H H' → IsR H' x v → ROk rows x → Q v H'
def listA : List V := [.str "add", .str "take", .str "less", .str "same", .str "narrow"]
def listB : List V := [.str "get", .str "set"]
inductive Kd (w : Str) : Prop
  | a (h : inV (.str w) listA = true) (x : ∀ r s t : Int, ∃ y : Rw, y.vals = [.str w, .int r, .int s, .int t] ∧ (box r → box s → box t → ∀ rows, ROk rows y))
  | g (h : w = "get")
  | s (h : w = "set")
  | c (h1 : inV (.str w) listA = false) (h2 : inV (.str w) listB = false)
      (h3 : w = "put" ∨ w = "fewer" ∨ w = "go" ∨ w = "if" ∨ w = "end" ∨ w = "gate" ∨ w = "move" ∨ w = "is" ∨ (valV (tab8 .non .non .non .non .non .non .non .non) (.inr w) = none ∧ ∀ s : Int, ∃ y : Rw, y.vals = [.str w, .int s] ∧ (box s → ∀ rows, ROk rows y)))
theorem tab8_none {w : Str} (h : valV (tab8 .non .non .non .non .non .non .non .non) (.inr w) = none) (a1 a2 a3 a4 a5 a6 a7 a8 : V) : valV (tab8 a1 a2 a3 a4 a5 a6 a7 a8) (.inr w) = none := by
  unfold tab8 at h ⊢
  by_cases e1 : (Sum.inr (Str.ofString "put") : Key) = .inr w
  · rw [valV_pos e1] at h; cases h
  rw [valV_neg e1] at h ⊢
  by_cases e2 : (Sum.inr (Str.ofString "fewer") : Key) = .inr w
  · rw [valV_pos e2] at h; cases h
  rw [valV_neg e2] at h ⊢
  by_cases e3 : (Sum.inr (Str.ofString "go") : Key) = .inr w
  · rw [valV_pos e3] at h; cases h
  rw [valV_neg e3] at h ⊢
  by_cases e4 : (Sum.inr (Str.ofString "if") : Key) = .inr w
  · rw [valV_pos e4] at h; cases h
  rw [valV_neg e4] at h ⊢
  by_cases e5 : (Sum.inr (Str.ofString "end") : Key) = .inr w
  · rw [valV_pos e5] at h; cases h
  rw [valV_neg e5] at h ⊢
  by_cases e6 : (Sum.inr (Str.ofString "gate") : Key) = .inr w
  · rw [valV_pos e6] at h; cases h
  rw [valV_neg e6] at h ⊢
  by_cases e7 : (Sum.inr (Str.ofString "move") : Key) = .inr w
  · rw [valV_pos e7] at h; cases h
  rw [valV_neg e7] at h ⊢
  by_cases e8 : (Sum.inr (Str.ofString "is") : Key) = .inr w
  · rw [valV_pos e8] at h; cases h
  rw [valV_neg e8] at h ⊢
  rfl
def words24 : List V := [.str "put", .str "move", .str "add", .str "take", .str "less", .str "same", .str "is", .str "get", .str "get", .str "set", .str "set", .str "narrow", .str "fewer", .str "gate", .str "enter", .str "room", .str "room", .str "shut", .str "say", .str "say", .str "go", .str "if", .str "if", .str "end"]
theorem kd24 {j : Int} (h0 : 0 ≤ j) (h1 : j < 24) : ∃ w, atI words24 j = some (.str w) ∧ Kd w := by
  have c : ∀ (w : Str), inV (.str w) listA = false → inV (.str w) listB = false → _ → Kd w := fun w => Kd.c (w := w)
  obtain rfl | rfl | rfl | rfl | rfl | rfl | rfl | rfl | rfl | rfl | rfl | rfl | rfl | rfl | rfl | rfl | rfl | rfl | rfl | rfl | rfl | rfl | rfl | rfl : j = 0 ∨ j = 1 ∨ j = 2 ∨ j = 3 ∨ j = 4 ∨ j = 5 ∨ j = 6 ∨ j = 7 ∨ j = 8 ∨ j = 9 ∨ j = 10 ∨ j = 11 ∨ j = 12 ∨ j = 13 ∨ j = 14 ∨ j = 15 ∨ j = 16 ∨ j = 17 ∨ j = 18 ∨ j = 19 ∨ j = 20 ∨ j = 21 ∨ j = 22 ∨ j = 23 := by omega
  · exact ⟨_, rfl, .c (by decide +kernel) (by decide +kernel) (.inl rfl)⟩
  · exact ⟨_, rfl, .c (by decide +kernel) (by decide +kernel) (.inr (.inr (.inr (.inr (.inr (.inr (.inl rfl)))))))⟩
  · exact ⟨_, rfl, .a (by decide +kernel) fun r s t => ⟨.add r s t, rfl, fun a b c _ => ⟨a, b, c⟩⟩⟩
  · exact ⟨_, rfl, .a (by decide +kernel) fun r s t => ⟨.take r s t, rfl, fun a b c _ => ⟨a, b, c⟩⟩⟩
  · exact ⟨_, rfl, .a (by decide +kernel) fun r s t => ⟨.less r s t, rfl, fun a b c _ => ⟨a, b, c⟩⟩⟩
  · exact ⟨_, rfl, .a (by decide +kernel) fun r s t => ⟨.same r s t, rfl, fun a b c _ => ⟨a, b, c⟩⟩⟩
  · exact ⟨_, rfl, .c (by decide +kernel) (by decide +kernel) (.inr (.inr (.inr (.inr (.inr (.inr (.inr (.inl rfl))))))))⟩
  · exact ⟨_, rfl, .g rfl⟩
  · exact ⟨_, rfl, .g rfl⟩
  · exact ⟨_, rfl, .s rfl⟩
  · exact ⟨_, rfl, .s rfl⟩
  · exact ⟨_, rfl, .a (by decide +kernel) fun r s t => ⟨.narrow r s t, rfl, fun a b c _ => ⟨a, b, c⟩⟩⟩
  · exact ⟨_, rfl, .c (by decide +kernel) (by decide +kernel) (.inr (.inl rfl))⟩
  · exact ⟨_, rfl, .c (by decide +kernel) (by decide +kernel) (.inr (.inr (.inr (.inr (.inr (.inl rfl))))))⟩
  · exact ⟨_, rfl, .c (by decide +kernel) (by decide +kernel) (.inr (.inr (.inr (.inr (.inr (.inr (.inr (.inr ⟨rfl, fun s => ⟨.enter s, rfl, fun a _ => a⟩⟩))))))))⟩
  · exact ⟨_, rfl, .c (by decide +kernel) (by decide +kernel) (.inr (.inr (.inr (.inr (.inr (.inr (.inr (.inr ⟨rfl, fun s => ⟨.room s, rfl, fun a _ => a⟩⟩))))))))⟩
  · exact ⟨_, rfl, .c (by decide +kernel) (by decide +kernel) (.inr (.inr (.inr (.inr (.inr (.inr (.inr (.inr ⟨rfl, fun s => ⟨.room s, rfl, fun a _ => a⟩⟩))))))))⟩
  · exact ⟨_, rfl, .c (by decide +kernel) (by decide +kernel) (.inr (.inr (.inr (.inr (.inr (.inr (.inr (.inr ⟨rfl, fun s => ⟨.shut s, rfl, fun a _ => a⟩⟩))))))))⟩
  · exact ⟨_, rfl, .c (by decide +kernel) (by decide +kernel) (.inr (.inr (.inr (.inr (.inr (.inr (.inr (.inr ⟨rfl, fun s => ⟨.say s, rfl, fun a _ => a⟩⟩))))))))⟩
  · exact ⟨_, rfl, .c (by decide +kernel) (by decide +kernel) (.inr (.inr (.inr (.inr (.inr (.inr (.inr (.inr ⟨rfl, fun s => ⟨.say s, rfl, fun a _ => a⟩⟩))))))))⟩
  · exact ⟨_, rfl, .c (by decide +kernel) (by decide +kernel) (.inr (.inr (.inl rfl)))⟩
  · exact ⟨_, rfl, .c (by decide +kernel) (by decide +kernel) (.inr (.inr (.inr (.inl rfl))))⟩
  · exact ⟨_, rfl, .c (by decide +kernel) (by decide +kernel) (.inr (.inr (.inr (.inl rfl))))⟩
  · exact ⟨_, rfl, .c (by decide +kernel) (by decide +kernel) (.inr (.inr (.inr (.inr (.inl rfl)))))⟩
abbrev s_law_row : Stmt := top 44
abbrev N_law_row : List Str := ["_law_row_here", "_law_at", "_law_rows", "_law_words", "_law_word_here", "_law_goal", "_law_some", "_law_r", "_law_s", "_law_t", "_law_far"]
abbrev P_law_row : List Str := ["_law_row_here", "_law_at", "_law_rows"]
theorem sc_law_row : FnScope N_law_row P_law_row (defScope s_law_row) := ⟨rfl, rfl, rfl, by decide +kernel, rfl, by decide +kernel, by decide +kernel⟩
section
variable {P : Program} {w : World} {K : PySem.W.Frag} {mg : Str → Option Value} {base : Heap}
theorem ok_row {f : Addr} {fd : FuncData} (F : Fun K "_law_row" "_law_row" s_law_row f fd) (T : Tx mg) (D_law_taken : Df P w K mg base 1 "_law_taken" P_law_taken [] (spTaken K))
    (D_law_number : Df P w K mg base 2 "_law_number" P_law_number [] (spDraw K fun v _ => isNum v)) (D_law_rights : Df P w K mg base 2 "_law_rights" P_law_rights [] (spDraw K fun v _ => isRights v)) : FnOk P w K mg base CX0 3 f fd P_law_row (spRow K) := by
  have sc := sc_law_row
  refine F.ok sc (fun vs H Q E h => ?_) (fun cdv A outer s H vs Q E hr h => ?_)
  · obtain ⟨R, a, rows, rfl, _⟩ := h
    rfl
  obtain ⟨R, at_, rows, rfl, r0, ha0, ha1, hr1, k⟩ := h
  have hu := hu_of hr
  have hu64 := hr.units
  refine ⟨_, ((pss_cons (ps_set (i := 3) sc.nd rfl (by first | exact Or.inl rfl | exact Or.inr rfl) (pe_lst (pa_lits [.str "put", .str "move", .str "add", .str "take", .str "less", .str "same", .str "is", .str "get", .str "get", .str "set", .str "set", .str "narrow", .str "fewer", .str "gate"] (by decide +kernel))))
  (pss_cons (ps_set (i := 3) sc.nd rfl (by first | exact Or.inl rfl | exact Or.inr rfl) (pe_op (oq_add K) (qv 3) (pe_lst (pa_lits [.str "enter", .str "room", .str "room", .str "shut", .str "say", .str "say", .str "go", .str "if", .str "if", .str "end"] (by decide +kernel)))))
  (pss_cons (ps_set (i := 4) sc.nd rfl (by first | exact Or.inl rfl | exact Or.inr rfl) (pe_ix (iq K hu) (qv 3) (qcall D_law_taken (by first | exact hr | exact hr.mono (by omega)) (pa_cons (qv 0) (pa_cons pe_int pa_nil))) (fun _ _ => rfl)))
  (pss_cons (ps_par3 (i := 7) (j := 8) (l := 9) (by rfl) sc.nd rfl rfl rfl (by decide) (by decide) (by decide) rfl rfl rfl (pa_cons (qcall D_law_taken (by first | exact hr | exact hr.mono (by omega)) (pa_cons (qv 0) (pa_cons pe_int pa_nil))) (pa_cons (qcall D_law_taken (by first | exact hr | exact hr.mono (by omega)) (pa_cons (qv 0) (pa_cons pe_int pa_nil))) (pa_cons (qcall D_law_taken (by first | exact hr | exact hr.mono (by omega)) (pa_cons (qv 0) (pa_cons pe_int pa_nil))) pa_nil))))
  (pss_cons (ps_set (i := 5) sc.nd rfl (by first | exact Or.inl rfl | exact Or.inr rfl) (pe_op (oq_add K) (qv 1) (qcall D_law_taken (by first | exact hr | exact hr.mono (by omega)) (pa_cons (qv 0) (pa_cons (pe_op oq_sub (qv 2) (qv 1)) pa_nil)))))
  (pss_cons (ps_if (pt_cmpR (oq_eq K hu64) (qcall D_law_taken (by first | exact hr | exact hr.mono (by omega)) (pa_cons (qv 0) (pa_cons pe_int pa_nil))) pe_int (nomark _))
  (pss_one (ps_set (i := 5) sc.nd rfl (by first | exact Or.inl rfl | exact Or.inr rfl) (qcall D_law_taken (by first | exact hr | exact hr.mono (by omega)) (pa_cons (qv 0) (pa_cons (qv 2) pa_nil)))))
  pss_nil)
  (pss_cons (ps_if (pt_cmpR (oq_in K) (qv 4) (pe_tup (pa_lits [.str "add", .str "take", .str "less", .str "same", .str "narrow"] (by decide +kernel))) (by rfl))
  (pss_one (ps_ret (pe_tup (pa_cons (qv 4) (pa_cons (qv 7) (pa_cons (qv 8) (pa_cons (qv 9) pa_nil)))))))
  pss_nil)
  (pss_cons (ps_if (pt_cmpR (oq_in K) (qv 4) (pe_tup (pa_lits [.str "get", .str "set"] (by decide +kernel))) (by rfl))
  (pss_cons (ps_set (i := 10) sc.nd rfl (by first | exact Or.inl rfl | exact Or.inr rfl) (pe_ix (iq K hu) (pe_lst (pa_cons pe_int (pa_cons pe_int (pa_cons (pe_op oq_sub (qcall D_law_taken (by first | exact hr | exact hr.mono (by omega)) (pa_cons (qv 0) (pa_cons pe_int pa_nil))) pe_int) (pa_cons (pe_op oq_sub (qcall D_law_taken (by first | exact hr | exact hr.mono (by omega)) (pa_cons (qv 0) (pa_cons pe_int pa_nil))) pe_int) pa_nil))))) (qcall D_law_taken (by first | exact hr | exact hr.mono (by omega)) (pa_cons (qv 0) (pa_cons pe_int pa_nil))) (fun _ _ => rfl)))
  (pss_one (ps_ret (pe_ifExp (pt_cmpR (oq_eq K hu64) (qv 4) pe_str (nomark _)) (pe_tup (pa_cons (qv 4) (pa_cons (qv 7) (pa_cons (qv 8) (pa_cons (qv 10) pa_nil))))) (pe_tup (pa_cons (qv 4) (pa_cons (qv 8) (pa_cons (qv 10) (pa_cons (qv 9) pa_nil)))))))))
  pss_nil)
  (pss_cons (ps_set (i := 6) sc.nd rfl (by first | exact Or.inl rfl | exact Or.inr rfl) (pe_disp (pps_cons pe_str (pe_tup (pa_cons (qv 7) (pa_cons (qcall D_law_number (by first | exact hr | exact hr.mono (by omega)) (pa_cons (qv 0) pa_nil)) pa_nil))) (pps_cons pe_str (pe_tup (pa_cons (qv 7) (pa_cons (qv 8) (pa_cons (qcall D_law_rights (by first | exact hr | exact hr.mono (by omega)) (pa_cons (qv 0) pa_nil)) pa_nil)))) (pps_cons pe_str (pe_tup (pa_cons (qv 5) pa_nil)) (pps_cons pe_str (pe_tup (pa_cons (qv 8) (pa_cons (qv 5) pa_nil))) (pps_cons pe_str (pe_tup pa_nil) pps_nil))))) (by rfl) (by rfl) (fun z => by cases z) (by decide)))
  (pss_cons (ps_expr (pe_bm PySem.F.plainAttrs_dict PySem.F.slot_dict_update PySem.F.type_dict_update (mt_update rfl) (qv 6) (pa_cons (pe_lst (pa_cons (pe_tup (pa_cons pe_str (pa_cons (pe_tup (pa_cons (qv 7) (pa_cons (qv 8) (pa_cons (qcall D_law_taken (by first | exact hr | exact hr.mono (by omega)) (pa_cons (qv 0) (pa_cons (pe_op (oq_add K) (qv 2) pe_int) pa_nil))) pa_nil)))) pa_nil))) (pa_cons (pe_tup (pa_cons pe_str (pa_cons (pe_tup (pa_cons (qv 7) (pa_cons (qv 8) pa_nil))) pa_nil))) (pa_cons (pe_tup (pa_cons pe_str (pa_cons (pe_tup (pa_cons (qv 7) (pa_cons (qv 8) pa_nil))) pa_nil))) pa_nil)))) pa_nil)))
  (pss_one (ps_ret (pe_op (oq_add K) (pe_tup (pa_cons (qv 4) pa_nil)) (pe_dget2 hu (qv 6) (qv 4) (pe_tup (pa_cons (qv 8) pa_nil)) ⟨by rfl, by rfl, by rfl, by rfl⟩)))))))))))))) : PSs _ (_ :: _) _), ?_⟩
  refine ⟨(by decide : 14 ≤ sizeLine), fun p1 hp1 => ?_⟩
  refine ⟨(by decide : 10 ≤ sizeLine), fun p2 hp2 => .inl ⟨_, _, _, _, rfl, rfl, same_new hp2 _ _ _ upd_same, upd_same, by decide, fun p3 hp3 => ?_⟩⟩
  have o3 := (((On.refl r0).new hp1 _).new hp2 _).new hp3 (.lst words24)
  have n3 : p3 ≠ R := ((((On.refl r0).new hp1 _).new hp2 _).row).ne hp3
  refine ⟨R, 24, rfl, o3.row, by decide, by decide, fun j H4 j0 j1 o4 => ?_⟩
  have e4 : H4 p3 = some (.lst words24) := o4.at upd_same n3
  obtain ⟨wd, ew, kd⟩ := kd24 j0 j1
  refine .inl ⟨_, _, SqL.of e4, ew, ?_⟩
  have o4 := o3.trans o4
  clear hp1 hp2 hp3 o3 n3 e4
  refine ⟨R, 8, rfl, o4.row, by decide, by decide, fun br H5 br0 br1 o5 => ?_⟩
  refine ⟨R, 8, rfl, o5.row, by decide, by decide, fun bs H6 bs0 bs1 o6 => ?_⟩
  refine ⟨R, 8, rfl, o6.row, by decide, by decide, fun bt H7 bt0 bt1 o7 => ?_⟩
  have o7 := ((o4.trans o5).trans o6).trans o7
  refine ⟨R, rows - at_, rfl, o7.row, by omega, by omega, fun g8 H8 g80 g81 o8 => ?_⟩
  have o8 := o7.trans o8
  have Br : box br := ⟨br0, by omega⟩
  have Bs : box bs := ⟨bs0, by omega⟩
  have Bt : box bt := ⟨bt0, by omega⟩
  dsimp only [rAddA, gName]
  refine tSeq.cut (fun σ' H1 => ∃ g : Int, σ' = [some (.ref R), some (.int at_), some (.int rows), some (.ref p3), some (.str wd), some (.int g), none, some (.int br), some (.int bs), some (.int bt), none] ∧ 0 ≤ g ∧ g < rows ∧ On K R H H1) ?fin (fun fin => ?_)
  case fin =>
    rintro σ' H1 ⟨g, rfl, g0, g1, o1⟩
    refine ⟨(by decide : 5 ≤ sizeLine), fun pa hpa => ⟨pa, listA, rfl, .inr (SqT.of upd_same), rfl, rfl, _, rfl, ?_⟩⟩
    have o2 := o1.new hpa (.tup listA)
    cases kd with
    | a h x =>
      obtain ⟨y, ey, oky⟩ := x br bs bt
      refine iteT' h ?_
      refine ⟨(by decide : 4 ≤ sizeLine), fun t ht => ?_⟩
      exact k _ _ y (o2.new ht _) ⟨t, rfl, by rw [ey]; exact upd_same⟩ (oky Br Bs Bt rows)
    | g h =>
      subst h
      refine iteF' (by decide +kernel) ?_
      refine ⟨(by decide : 2 ≤ sizeLine), fun pb hpb => ⟨pb, listB, rfl, .inr (SqT.of upd_same), rfl, rfl, _, rfl, ?_⟩⟩
      have o3 := o2.new hpb (.tup listB)
      refine iteT' (by decide +kernel) ?_
      refine ⟨R, 5, rfl, o3.row, by decide, by decide, fun f1 H4 f10 f11 o4 => ?_⟩
      refine ⟨R, 127, rfl, o4.row, by decide, by decide, fun f2 H5 f20 f21 o5 => ?_⟩
      refine ⟨(by decide : 4 ≤ sizeLine), fun pc hpc => ?_⟩
      have o5' := o5.new hpc (.lst [.int 0, .int 0, .int (f1 - 2), .int (f2 - 63)])
      refine ⟨R, 4, rfl, o5'.row, by decide, by decide, fun f3 H6 f30 f31 o6 => ?_⟩
      have e6 : H6 pc = _ := o6.at upd_same (o5.row.ne hpc)
      obtain ⟨fr, ef, hfr⟩ : ∃ q : Int, atI [V.int 0, .int 0, .int (f1 - 2), .int (f2 - 63)] f3 = some (.int q) ∧ -63 ≤ q ∧ q ≤ 63 := by
        obtain rfl | rfl | rfl | rfl : f3 = 0 ∨ f3 = 1 ∨ f3 = 2 ∨ f3 = 3 := by omega
        · exact ⟨_, rfl, by omega, by omega⟩
        · exact ⟨_, rfl, by omega, by omega⟩
        · exact ⟨_, rfl, by omega, by omega⟩
        · exact ⟨_, rfl, by omega, by omega⟩
      refine .inl ⟨_, _, SqL.of e6, ef, ?_⟩
      have o7 := ((o3.trans o4).trans o5').trans o6
      refine ⟨rfl, _, rfl, ?_⟩
      refine iteT' (by decide +kernel) ?_
      refine ⟨(by decide : 4 ≤ sizeLine), fun t ht => ?_⟩
      exact k _ _ (.get br bs fr) (o7.new ht _) ⟨t, rfl, upd_same⟩ ⟨Br, Bs, hfr⟩
    | s h =>
      subst h
      refine iteF' (by decide +kernel) ?_
      refine ⟨(by decide : 2 ≤ sizeLine), fun pb hpb => ⟨pb, listB, rfl, .inr (SqT.of upd_same), rfl, rfl, _, rfl, ?_⟩⟩
      have o3 := o2.new hpb (.tup listB)
      refine iteT' (by decide +kernel) ?_
      refine ⟨R, 5, rfl, o3.row, by decide, by decide, fun f1 H4 f10 f11 o4 => ?_⟩
      refine ⟨R, 127, rfl, o4.row, by decide, by decide, fun f2 H5 f20 f21 o5 => ?_⟩
      refine ⟨(by decide : 4 ≤ sizeLine), fun pc hpc => ?_⟩
      have o5' := o5.new hpc (.lst [.int 0, .int 0, .int (f1 - 2), .int (f2 - 63)])
      refine ⟨R, 4, rfl, o5'.row, by decide, by decide, fun f3 H6 f30 f31 o6 => ?_⟩
      have e6 : H6 pc = _ := o6.at upd_same (o5.row.ne hpc)
      obtain ⟨fr, ef, hfr⟩ : ∃ q : Int, atI [V.int 0, .int 0, .int (f1 - 2), .int (f2 - 63)] f3 = some (.int q) ∧ -63 ≤ q ∧ q ≤ 63 := by
        obtain rfl | rfl | rfl | rfl : f3 = 0 ∨ f3 = 1 ∨ f3 = 2 ∨ f3 = 3 := by omega
        · exact ⟨_, rfl, by omega, by omega⟩
        · exact ⟨_, rfl, by omega, by omega⟩
        · exact ⟨_, rfl, by omega, by omega⟩
        · exact ⟨_, rfl, by omega, by omega⟩
      refine .inl ⟨_, _, SqL.of e6, ef, ?_⟩
      have o7 := ((o3.trans o4).trans o5').trans o6
      refine ⟨rfl, _, rfl, ?_⟩
      refine iteF' (by decide +kernel) ?_
      refine ⟨(by decide : 4 ≤ sizeLine), fun t ht => ?_⟩
      exact k _ _ (.set bs fr bt) (o7.new ht _) ⟨t, rfl, upd_same⟩ ⟨Bs, hfr, Bt⟩
    | c h1 h2 h3 =>
      refine iteF' h1 ?_
      refine ⟨(by decide : 2 ≤ sizeLine), fun pb hpb => ⟨pb, listB, rfl, .inr (SqT.of upd_same), rfl, rfl, _, rfl, ?_⟩⟩
      have o3 := o2.new hpb (.tup listB)
      refine iteF' h2 ?_
      -- the table
      intro d hd
      have nd := o3.row.ne hd
      have o4 := o3.new hd (.dK [])
      refine ⟨R, rfl, o4.row, fun v5 H5 o5 ⟨n5, e5, h50, h51⟩ => ?_⟩
      subst e5
      have d5 : H5 d = some (.dK []) := o5.at upd_same nd
      refine ⟨(by decide : 2 ≤ sizeLine), fun t1 ht1 => ?_⟩
      have o6 := (o4.trans o5).new ht1 (.tup [.int br, .int n5])
      have d6 := same_new ht1 (.tup [.int br, .int n5]) _ _ d5
      refine ⟨R, rfl, o6.row, fun v7 H7 o7 ⟨x7, e7, h7⟩ => ?_⟩
      subst e7
      have d7 := o7.at d6 nd
      have t17 : H7 t1 = some (.tup [.int br, .int n5]) := On.tups o6.row o7 _ _ upd_same
      refine ⟨(by decide : 3 ≤ sizeLine), fun t2 ht2 => ?_⟩
      refine ⟨(by decide : 1 ≤ sizeLine), fun t3 ht3 => ?_⟩
      refine ⟨(by decide : 2 ≤ sizeLine), fun t4 ht4 => ?_⟩
      refine ⟨(by decide : 0 ≤ sizeLine), fun t5 ht5 => ?_⟩
      have s2 := same_new ht2 (.tup [.int br, .int bs, .str x7])
      have s3 := same_new ht3 (.tup [.int g])
      have s4 := same_new ht4 (.tup [.int bs, .int g])
      have s5 := same_new ht5 (.tup [])
      have o8 := ((((o6.trans o7).new ht2 _).new ht3 _).new ht4 _).new ht5 (.tup [])
      refine ⟨s5 _ _ (s4 _ _ (s3 _ _ (s2 _ _ d7))), [(.inr "put", .ref t1), (.inr "fewer", .ref t2), (.inr "go", .ref t3), (.inr "if", .ref t4), (.inr "end", .ref t5)], rfl, (by show 5 ≤ 15; decide), ?_⟩
      rw [tab5_eq]
      have soft8 := soft_dK (s5 _ _ (s4 _ _ (s3 _ _ (s2 _ _ d7))))
      have u8 := Tups.upd (o := .dK [(.inr "put", .ref t1), (.inr "fewer", .ref t2), (.inr "go", .ref t3), (.inr "if", .ref t4), (.inr "end", .ref t5)]) soft8
      have o9 := o8.fill (o3.none hd nd) nd soft8 (.dK [(.inr "put", .ref t1), (.inr "fewer", .ref t2), (.inr "go", .ref t3), (.inr "if", .ref t4), (.inr "end", .ref t5)])
      have T1 := u8 _ _ (s5 _ _ (s4 _ _ (s3 _ _ (s2 _ _ t17))))
      have T2 := u8 _ _ (s5 _ _ (s4 _ _ (s3 _ _ upd_same)))
      have T3 := u8 _ _ (s5 _ _ (s4 _ _ upd_same))
      have T4 := u8 _ _ (s5 _ _ upd_same)
      have T5 := u8 _ _ upd_same
      refine ⟨.inr (.inr (.inl ⟨rfl, .inl ⟨_, upd_same⟩⟩)), ?_⟩
      refine ⟨R, _, rfl, o9.row, (by show 0 < rows + 1; omega), (by show rows + 1 < _; omega), fun q10 H10 q100 q101 o10 => ?_⟩
      have d10 : H10 d = _ := o10.at upd_same nd
      have v10 := On.tups o9.row o10
      refine ⟨(by decide : 3 ≤ sizeLine), fun t6 ht6 => ⟨(by decide : 2 ≤ sizeLine), fun p6 hp6 => ⟨(by decide : 2 ≤ sizeLine), fun t7 ht7 => ⟨(by decide : 2 ≤ sizeLine), fun p7 hp7 => ⟨(by decide : 2 ≤ sizeLine), fun t8 ht8 => ⟨(by decide : 2 ≤ sizeLine), fun p8 hp8 => ⟨(by decide : 3 ≤ sizeLine), fun L hL => ?_⟩⟩⟩⟩⟩⟩⟩
      have s6 := same_new ht6 (.tup [.int br, .int bs, .int q10])
      have s6' := same_new hp6 (.tup [.str "gate", .ref t6])
      have s7 := same_new ht7 (.tup [.int br, .int bs])
      have s7' := same_new hp7 (.tup [.str "move", .ref t7])
      have s8 := same_new ht8 (.tup [.int br, .int bs])
      have s8' := same_new hp8 (.tup [.str "is", .ref t8])
      have sL := same_new hL (.lst [.ref p6, .ref p7, .ref p8])
      have sall := s6.trans (s6'.trans (s7.trans (s7'.trans (s8.trans (s8'.trans sL)))))
      have o11 := (o9.trans o10).same sall
      have d11 := sall _ _ d10
      refine ⟨d, L, [p6, p7, p8], _, [(.inr "gate", .ref t6), (.inr "move", .ref t7), (.inr "is", .ref t8)], rfl, rfl, d11, SqL.of upd_same,
        .cons (SqT.of (sL _ _ (s8' _ _ (s8 _ _ (s7' _ _ (s7 _ _ upd_same)))))) (.cons (SqT.of (sL _ _ (s8' _ _ (s8 _ _ upd_same)))) (.cons (SqT.of (sL _ _ upd_same)) .nil)), (by show 8 ≤ sizeLine; decide), ?_⟩
      rw [tab8_eq]
      have u11 := Tups.upd (o := .dK (tab8 (.ref t1) (.ref t2) (.ref t3) (.ref t4) (.ref t5) (.ref t6) (.ref t7) (.ref t8))) (soft_dK d11)
      have o12 := o11.fill (o3.none hd nd) nd (soft_dK d11) (.dK (tab8 (.ref t1) (.ref t2) (.ref t3) (.ref t4) (.ref t5) (.ref t6) (.ref t7) (.ref t8)))
      have T1 := u11 _ _ (Same.tups sall _ _ (v10 _ _ T1))
      have T2 := u11 _ _ (Same.tups sall _ _ (v10 _ _ T2))
      have T3 := u11 _ _ (Same.tups sall _ _ (v10 _ _ T3))
      have T4 := u11 _ _ (Same.tups sall _ _ (v10 _ _ T4))
      have T5 := u11 _ _ (Same.tups sall _ _ (v10 _ _ T5))
      have T6 := u11 _ _ (sL _ _ (s8' _ _ (s8 _ _ (s7' _ _ (s7 _ _ (s6' _ _ upd_same))))))
      have T7 := u11 _ _ (sL _ _ (s8' _ _ (s8 _ _ (s7' _ _ upd_same))))
      have T8 := u11 _ _ (sL _ _ (s8' _ _ upd_same))
      refine ⟨(by decide : 1 ≤ sizeLine), fun t9 ht9 => ?_⟩
      have s9 := same_new ht9 (.tup [.str wd])
      have d12 := s9 d _ upd_same
      refine ⟨d, rfl, .inl ⟨_, .inl d12⟩, (by decide : 1 ≤ sizeLine), fun t10 ht10 => ?_⟩
      have s10 := same_new ht10 (.tup [.int bs])
      have o13 := (o12.new ht9 (.tup [.str wd])).new ht10 (.tup [.int bs])
      have d13 := s10 _ _ d12
      have T9 := s10 _ _ (upd_same (H := _) (a := t9) (o := .tup [.str wd]))
      have sx := s9.trans s10
      rcases h3 with rfl | rfl | rfl | rfl | rfl | rfl | rfl | rfl | ⟨h3, hx⟩
      · refine ⟨some (.ref t1), DGet.k (k := .inr "put") d13, .inr ⟨_, _, _, _, rfl, rfl, SqT.of T9, SqT.of (sx _ _ T1), (by intro z; cases z), (by show 3 ≤ sizeLine; decide), (fun z => by cases z), fun _ t ht => ?_⟩⟩
        exact k _ _ (.put br n5) (o13.new ht _) ⟨t, rfl, upd_same⟩ ⟨Br, h50, h51⟩
      · refine ⟨some (.ref t2), DGet.k (k := .inr "fewer") d13, .inr ⟨_, _, _, _, rfl, rfl, SqT.of T9, SqT.of (sx _ _ T2), (by intro z; cases z), (by show 4 ≤ sizeLine; decide), (fun z => by cases z), fun _ t ht => ?_⟩⟩
        exact k _ _ (.fewer br bs x7) (o13.new ht _) ⟨t, rfl, upd_same⟩ ⟨Br, Bs, h7⟩
      · refine ⟨some (.ref t3), DGet.k (k := .inr "go") d13, .inr ⟨_, _, _, _, rfl, rfl, SqT.of T9, SqT.of (sx _ _ T3), (by intro z; cases z), (by show 2 ≤ sizeLine; decide), (fun z => by cases z), fun _ t ht => ?_⟩⟩
        exact k _ _ (.go g) (o13.new ht _) ⟨t, rfl, upd_same⟩ ⟨g0, g1⟩
      · refine ⟨some (.ref t4), DGet.k (k := .inr "if") d13, .inr ⟨_, _, _, _, rfl, rfl, SqT.of T9, SqT.of (sx _ _ T4), (by intro z; cases z), (by show 3 ≤ sizeLine; decide), (fun z => by cases z), fun _ t ht => ?_⟩⟩
        exact k _ _ (.if_ bs g) (o13.new ht _) ⟨t, rfl, upd_same⟩ ⟨Bs, g0, g1⟩
      · refine ⟨some (.ref t5), DGet.k (k := .inr "end") d13, .inr ⟨_, _, _, _, rfl, rfl, SqT.of T9, SqT.of (sx _ _ T5), (by intro z; cases z), (by show 1 ≤ sizeLine; decide), (fun _ => ?_), fun z => absurd rfl z⟩⟩
        exact k _ _ .end_ o13 ⟨t9, rfl, T9⟩ trivial
      · refine ⟨some (.ref t6), DGet.k (k := .inr "gate") d13, .inr ⟨_, _, _, _, rfl, rfl, SqT.of T9, SqT.of (sx _ _ T6), (by intro z; cases z), (by show 4 ≤ sizeLine; decide), (fun z => by cases z), fun _ t ht => ?_⟩⟩
        exact k _ _ (.gate br bs q10) (o13.new ht _) ⟨t, rfl, upd_same⟩ ⟨Br, Bs, q100, by omega⟩
      · refine ⟨some (.ref t7), DGet.k (k := .inr "move") d13, .inr ⟨_, _, _, _, rfl, rfl, SqT.of T9, SqT.of (sx _ _ T7), (by intro z; cases z), (by show 3 ≤ sizeLine; decide), (fun z => by cases z), fun _ t ht => ?_⟩⟩
        exact k _ _ (.move br bs) (o13.new ht _) ⟨t, rfl, upd_same⟩ ⟨Br, Bs⟩
      · refine ⟨some (.ref t8), DGet.k (k := .inr "is") d13, .inr ⟨_, _, _, _, rfl, rfl, SqT.of T9, SqT.of (sx _ _ T8), (by intro z; cases z), (by show 3 ≤ sizeLine; decide), (fun z => by cases z), fun _ t ht => ?_⟩⟩
        exact k _ _ (.is_ br bs) (o13.new ht _) ⟨t, rfl, upd_same⟩ ⟨Br, Bs⟩
      · obtain ⟨y, ey, oky⟩ := hx bs
        refine ⟨none, .inl ⟨_, .inr wd, .inl d13, rfl, (tab8_none h3 _ _ _ _ _ _ _ _).symm⟩, .inr ⟨_, _, _, _, rfl, rfl, SqT.of T9, SqT.of upd_same, (by intro z; cases z), (by show 2 ≤ sizeLine; decide), (fun z => by cases z), fun _ t ht => ?_⟩⟩
        exact k _ _ y (o13.new ht _) ⟨t, rfl, by rw [ey]; exact upd_same⟩ (oky Bs rows)
  refine ⟨R, 5, rfl, o8.row, by decide, by decide, fun q9 H9 q90 q91 o9 => ?_⟩
  have o9 := o8.trans o9
  refine ⟨rfl, _, rfl, ?_⟩
  refine ite2 (fun _ => ?_) (fun _ => ?_)
  · refine ⟨R, rows, rfl, o9.row, by omega, by omega, fun g10 H10 g100 g101 o10 => ?_⟩
    exact fin _ _ ⟨g10, rfl, g100, g101, o9.trans o10⟩
  · exact fin _ _ ⟨_, rfl, by omega, by omega, o9⟩
end
end Tm
set_option Elab.async false
set_option linter.all false
set_option maxRecDepth 100000
set_option maxHeartbeats 1000000
set_option pp.maxSteps 600
set_option pp.deepTerms false
namespace Tm
open PySem L2
def spProg (K : PySem.W.Frag) : Sp := fun vs H Q _ => ∃ (R : Addr) (most : Int), vs = [.ref R, .int most] ∧ RowAt K H R ∧ 0 < most ∧ most ≤ 60 ∧ ∀ (v : V) (H' : Hp) (xs : List Rw), On K R H H' → Prg H' xs v → POk xs → Q v H'
structure Rws (rows : Int) (H : Hp) (D : Addr) (vs : List V) (xs : List Rw) : Prop where
  at_ : H D = some (.lst vs)
  is : Paired (fun v x => IsR H x v) vs xs
  ok : ∀ x ∈ xs, ROk rows x
theorem Rws.put {rows : Int} {H H' : Hp} {D : Addr} {vs : List V} {xs : List Rw} {v : V} {x : Rw} (h : Rws rows H D vs xs) (t : Tups H H') (d : H' D = some (.lst vs)) (i : IsR H' x v) (o : ROk rows x) : Rws rows (upd H' D (.lst (vs ++ [v]))) D (vs ++ [v]) (xs ++ [x]) := by
  have tp : Tups H' (upd H' D (.lst (vs ++ [v]))) := Tups.upd (soft_lst d)
  refine ⟨upd_same, pair_app (Paired.mapP h.is fun _ _ q => (q.tups t).tups tp) (.cons (i.tups tp) .nil), fun y hy => ?_⟩
  rcases List.mem_append.mp hy with q | q
  · exact h.ok y q
  · rw [List.mem_singleton.mp q]
    exact o
abbrev s_law_program : Stmt := top 45
abbrev N_law_program : List Str := ["_law_row_here", "_law_most", "_law_rows", "_law_found", "_law_at", "_law_one"]
abbrev P_law_program : List Str := ["_law_row_here", "_law_most"]
theorem sc_law_program : FnScope N_law_program P_law_program (defScope s_law_program) := ⟨rfl, rfl, rfl, by decide +kernel, rfl, by decide +kernel, by decide +kernel⟩
section
variable {P : Program} {w : World} {K : PySem.W.Frag} {mg : Str → Option Value} {base : Heap}
theorem ok_lprogram {f : Addr} {fd : FuncData} (F : Fun K "_law_program" "_law_program" s_law_program f fd) (T : Tx mg) (D_law_taken : Df P w K mg base 1 "_law_taken" P_law_taken [] (spTaken K)) (D_law_row : Df P w K mg base 3 "_law_row" P_law_row [] (spRow K)) : FnOk P w K mg base CX0 4 f fd P_law_program (spProg K) := by
  have sc := sc_law_program
  refine F.ok sc (fun vs H Q E h => ?_) (fun cdv A outer s H vs Q E hr h => ?_)
  · obtain ⟨R, m, rfl, _⟩ := h
    rfl
  obtain ⟨R, most, rfl, r0, m0, m1, k⟩ := h
  have hu := hu_of hr
  have hu64 := hr.units
  refine ⟨_, ((pss_cons (ps_set (i := 2) sc.nd rfl (by first | exact Or.inl rfl | exact Or.inr rfl) (pe_op (oq_add K) pe_int (qcall D_law_taken (by first | exact hr | exact hr.mono (by omega)) (pa_cons (qv 0) (pa_cons (qv 1) pa_nil)))))
  (pss_cons (ps_setLc (i := 3) (own := [("_law_at", 4)]) (g := gName 4) (by rfl) sc.nd rfl rfl (sw_true rfl rfl rfl (by decide +kernel)) (pi_range1 (by rfl) T.range (pa_cons (qv 2) pa_nil)) (blkOk_by (own := [("_law_at", 4)]) (N := N_law_program) (sc := defScope s_law_program) (by decide +kernel)) (fun _ _ _ _ _ => (pg_name (i := 4) sc.nd rfl (by first | exact Or.inl rfl | exact Or.inr rfl))) (fun _ _ _ _ _ => pts_nil) (fun _ _ _ _ _ => (qcall D_law_row (by first | exact hr | exact hr.mono (by omega)) (pa_cons (qv 0) (pa_cons (qv 4) (pa_cons (qv 2) pa_nil))))))
  (pss_one (ps_ret (pe_callTy call_tuple_of (by rfl) T.tuple (by decide +kernel) (pa_cons (pe_lc (own := [("_law_one", 5)]) (g := gName 5) (by rfl) sc.nd (pi_list (qv 3)) (blkOk_by (own := [("_law_one", 5)]) (N := N_law_program) (sc := defScope s_law_program) (by decide +kernel)) (fun _ _ _ _ _ => (pg_name (i := 5) sc.nd rfl (by first | exact Or.inl rfl | exact Or.inr rfl))) (fun _ _ _ _ _ => pts_nil) (fun _ _ _ _ _ => (pe_ifExp (PW.pt (pw_and (pt_cmpR (oq_eq K hu64) (qv 5) (pe_tup (pa_cons pe_str pa_nil)) (nomark _)) (pw_and1 (pt_cmpR oq_gt (qcall D_law_taken (by first | exact hr | exact hr.mono (by omega)) (pa_cons (qv 0) (pa_cons pe_int pa_nil))) pe_int (nomark _))))) (pe_tup (pa_lits [.str "say", .int 1] (by decide +kernel))) (qv 5)))) pa_nil)))))) : PSs _ (_ :: _) _), ?_⟩
  refine ⟨R, most, rfl, r0, m0, by omega, fun n H1 n0 n1 o1 => ?_⟩
  refine ⟨_, rfl, (by show -(2 ^ 62) ≤ 1 + n; omega), (by show 1 + n < 2 ^ 62; omega), fun D hD => ?_⟩
  have nD := o1.row.ne hD
  have rows60 : 1 + n ≤ 60 := by omega
  refine lc_range (lo := 0) (n := (1 + n).toNat) (fun i H2 => On K R H1 H2 ∧ ∃ vs xs, Rws (1 + n) H2 D vs xs ∧ xs.length = i) ⟨(On.refl o1.row).new hD _, [], [], ⟨upd_same, .nil, fun x hx => absurd hx (by simp)⟩, rfl⟩ ?_ ?_
  · rintro i H2 hi ⟨o2, vs, xs, rw2, lx⟩
    refine ⟨rfl, ?_⟩
    refine ⟨R, _, _, rfl, o2.row, (by show (0 : Int) ≤ 0 + (i : Int); omega), (by show (0 : Int) + (i : Int) < 1 + n; omega), (by show 1 + n ≤ 1000; omega), fun v H3 x o3 ix okx => ?_⟩
    have d3 := o3.at rw2.at_ nD
    have lv := Paired.length rw2.is
    refine ⟨_, d3, ?_, (o2.trans o3).fill hD nD (soft_lst d3) _, vs ++ [v], xs ++ [x], rw2.put (On.tups o2.row o3) d3 ix okx, ?_⟩
    · exact small1000 (by omega)
    · rw [List.length_append, lx]
      rfl
  · rintro H2 ⟨o2, vs, xs, rw2, lx⟩
    have hl := Paired.length rw2.is
    refine ⟨D, rfl, ⟨_, SqL.of rw2.at_⟩, fun D' hD' => ?_⟩
    have nD' := o2.row.ne hD'
    have nDD : D ≠ D' := ne_of_none rw2.at_ hD'
    refine lc_by (n := vs.length) (fun i H3 => On K R H2 H3 ∧ H3 D = some (.lst vs) ∧ ∃ us ys, Rws (1 + n) H3 D' us ys ∧ ys.length = i) ⟨(On.refl o2.row).new hD' _, same_new hD' _ _ _ rw2.at_, [], [], ⟨upd_same, .nil, fun x hx => absurd hx (by simp)⟩, rfl⟩ ?_ ?_ ?_ ?_
    · rintro i H3 hi ⟨o3, d3, _⟩
      exact ⟨_, _, SqL.of d3, List.getElem?_eq_getElem hi⟩
    · rintro H3 ⟨o3, d3, _⟩
      exact ⟨_, SqL.of d3, Nat.le_refl _⟩
    · rintro i H3 v H3' hi ⟨o3, d3, us, ys, rw3, ly⟩ ⟨rfl, hv⟩
      have hv := hv _ (SqL.of d3)
      obtain ⟨v', x, e1, e2, ix⟩ := Paired.get2 rw2.is hi
      rw [hv] at e1
      cases e1
      have okx := rw2.ok x (List.mem_of_getElem? e2)
      have lu := Paired.length rw3.is
      have t3 := On.tups o2.row o3
      -- the row is taken as it is, or said
      have fin : ∀ (H4 : Hp) (u : V) (y : Rw), On K R H3' H4 → IsR H4 y u → ROk (1 + n) y → ∃ acc, H4 D' = some (.lst acc) ∧ acc.length < sizeLine ∧ On K R H2 (upd H4 D' (.lst (acc ++ [u]))) ∧ (upd H4 D' (.lst (acc ++ [u]))) D = some (.lst vs) ∧ ∃ us ys, Rws (1 + n) (upd H4 D' (.lst (acc ++ [u]))) D' us ys ∧ ys.length = i + 1 := by
        intro H4 u y o4 iy oky
        have d4 := o4.at rw3.at_ nD'
        refine ⟨us, d4, small1000 (by omega), (o3.trans o4).fill hD' nD' (soft_lst d4) _, ?_, us ++ [u], ys ++ [y], rw3.put (On.tups o3.row o4) d4 iy oky, ?_⟩
        · rw [upd_ne nDD]
          exact o4.at d3 nD
        · rw [List.length_append, ly]
          rfl
      refine ⟨rfl, ?_⟩
      refine ⟨(by decide : 1 ≤ sizeLine), fun te hte => ?_⟩
      have se := same_new hte (.tup [.str "end"])
      have o4 := (On.refl o3.row).new hte (.tup [.str "end"])
      have ix4 := (ix.tups t3).tups (Same.tups se)
      obtain ⟨px, rfl, hpx⟩ := id ix4
      refine ⟨x.dat, Rw.end_.dat, ix4.dp (rows := 1 + n) (by omega) okx, IsR.dp (x := .end_) (rows := 1 + n) ⟨te, rfl, upd_same⟩ (by omega) trivial, shaped_row (rows := 1 + n) (by omega) x okx, shaped_row (rows := 1 + n) (by omega) .end_ trivial, ?_⟩
      generalize PyData.eqv x.dat Rw.end_.dat = b
      refine ⟨_, rfl, ?_⟩
      cases b with
      | false => exact iteF (iteF (fin _ _ x o4 ix4 okx))
      | true =>
        refine iteT ?_
        refine ⟨R, 4, rfl, o4.row, by decide, by decide, fun q H5 q0 q1 o5 => ?_⟩
        have o5' := o4.trans o5
        refine ⟨_, rfl, ?_⟩
        refine ite2 (fun _ => ?_) (fun _ => ?_)
        · refine ⟨(by decide : 2 ≤ sizeLine), fun ts hts => ?_⟩
          exact fin _ _ (.say 1) (o5'.new hts _) ⟨ts, rfl, upd_same⟩ ⟨by decide, by decide⟩
        · exact fin _ _ x o5' (ix4.tups (On.tups o4.row o5)) okx
    · rintro H3 ⟨o3, d3, us, ys, rw3, ly⟩
      refine ⟨D', us, rfl, .inl ⟨SqL.of rw3.at_, fun tp htp => ?_⟩⟩
      have st := same_new htp (.tup us)
      have hln : (ys.length : Int) = 1 + n := by omega
      refine k _ _ ys (((o1.trans o2).trans o3).new htp _) ⟨tp, us, rfl, upd_same, Paired.mapP rw3.is fun _ _ q => q.tups (Same.tups st)⟩ ⟨by omega, by omega, ?_⟩
      rw [hln]
      exact rw3.ok
end
end Tm
set_option Elab.async false
set_option linter.all false
set_option maxRecDepth 100000
set_option maxHeartbeats 1000000
namespace Tm
open PySem L2
def spAlike (n : Nat) : Sp := fun vs H Q _ => ∃ x y d, vs = [x, y] ∧ Dq H n x d ∧ Dq H n y d ∧ ∀ H', Same H H' → Q (.bl true) H'
abbrev s_law_alike : Stmt := top 40
abbrev N_law_alike : List Str := ["_law_found", "_law_due", "_law_k"]
abbrev P_law_alike : List Str := ["_law_found", "_law_due"]
theorem sc_law_alike : FnScope N_law_alike P_law_alike (defScope s_law_alike) := ⟨rfl, rfl, rfl, by decide +kernel, rfl, by decide +kernel, by decide +kernel⟩
section
variable {P : Program} {w : World} {K : PySem.W.Frag} {mg : Str → Option Value} {base : Heap}
theorem ok_alike {f : Addr} {fd : FuncData} (F : Fun K "_law_alike" "_law_alike" s_law_alike f fd) (T : Tx mg) {n m : Nat}
    (D_law_alike : ∀ j, j + 1 = n → Df P w K mg base m "_law_alike" P_law_alike [] (spAlike j)) : FnOk P w K mg base CX0 (m + 1) f fd P_law_alike (spAlike n) := by
  have sc := sc_law_alike
  refine F.ok sc (fun vs H Q E h => ?_) (fun cdv A outer s H vs Q E hr h => ?_)
  · obtain ⟨x, y, d, rfl, _⟩ := h
    rfl
  obtain ⟨x, y, d, rfl, hx, hy, k⟩ := h
  have hu := hu_of hr
  have hu64 := hr.units
  by_cases hs : scalD x d
  · have hy' : scalD y d := by
      cases n with
      | zero => exact hy
      | succ n =>
        rcases hy with h | ⟨a, xs, ds, _, e2, _, _, _⟩ | ⟨a, xs, ds, _, e2, _, _, _⟩
        · exact h
        · subst e2; cases x <;> exact hs.elim
        · subst e2; cases x <;> exact hs.elim
    refine ⟨_, (pss_cons (ps_if (PW.pt (pw_or (pt_val (qisi (isi_tuple _) T.isinstance T.tuple (qv 1))) (pw_or1 (pt_val (qisi (isi_list _) T.isinstance T.list (qv 1))))))
 pss_never
  pss_nil)
  (pss_cons (ps_if (PW.pt (pw_or (pt_cmpR op_isN (qv 1) pe_non (nomark _)) (pw_or1 (pt_cmpR op_isN (qv 0) pe_non (nomark _)))))
  (pss_one (ps_ret (pe_and (pe_cmpR op_isN (qv 1) pe_non (nomark _)) (pe_one (pe_cmpR op_isN (qv 0) pe_non (nomark _))))))
  pss_nil)
  (pss_cons (ps_if (PW.pt (pw_or (pt_val (qisi (isi_bool _) T.isinstance T.bool (qv 1))) (pw_or1 (pt_val (qisi (isi_bool _) T.isinstance T.bool (qv 0))))))
  (pss_one (ps_ret (pe_and (qisi (isi_bool _) T.isinstance T.bool (qv 1)) (pe_and (qisi (isi_bool _) T.isinstance T.bool (qv 0)) (pe_one (pe_cmpR (oq_eq K hu64) (qv 0) (qv 1) (nomark _)))))))
  pss_nil)
  (pss_cons (ps_if (pt_val (qisi (isi_str _) T.isinstance T.str (qv 1)))
  (pss_one (ps_ret (pe_and (qisi (isi_str _) T.isinstance T.str (qv 0)) (pe_one (pe_cmpR (oq_eq K hu64) (qv 0) (qv 1) (nomark _))))))
  pss_nil)
  (pss_one (ps_ret (pe_and (qisi (isi_int _) T.isinstance T.int (qv 0)) (pe_one (pe_cmpR (oq_eq K hu64) (qv 0) (qv 1) (nomark _)))))))))), ?_⟩
    cases d with
    | none =>
      cases x <;> first | exact hs.elim | skip
      cases y <;> first | exact hy'.elim | skip
      refine ⟨_, rfl, iteF ⟨_, rfl, iteF ?_⟩⟩
      refine ⟨rfl, _, rfl, iteT (iteT ?_)⟩
      exact ⟨rfl, _, rfl, iteT ⟨rfl, k H (Same.refl H)⟩⟩
    | bool b =>
      cases x <;> first | exact hs.elim | skip
      cases y <;> first | exact hy'.elim | skip
      cases hs
      cases hy'
      refine ⟨_, rfl, iteF ⟨_, rfl, iteF ?_⟩⟩
      refine ⟨rfl, _, rfl, iteF ⟨rfl, _, rfl, iteF ?_⟩⟩
      refine ⟨_, rfl, iteT (iteT ?_)⟩
      refine ⟨_, rfl, iteT ⟨_, rfl, iteT ⟨rfl, ?_⟩⟩⟩
      rw [decide_eq_true rfl]
      exact k H (Same.refl H)
    | int b =>
      cases x <;> first | exact hs.elim | skip
      cases y <;> first | exact hy'.elim | skip
      cases hs
      cases hy'
      refine ⟨_, rfl, iteF ⟨_, rfl, iteF ?_⟩⟩
      refine ⟨rfl, _, rfl, iteF ⟨rfl, _, rfl, iteF ?_⟩⟩
      refine ⟨_, rfl, iteF ⟨_, rfl, iteF ?_⟩⟩
      refine ⟨_, rfl, iteF ?_⟩
      refine ⟨_, rfl, iteT ⟨rfl, ?_⟩⟩
      rw [decide_eq_true rfl]
      exact k H (Same.refl H)
    | str b =>
      cases x <;> first | exact hs.elim | skip
      cases y <;> first | exact hy'.elim | skip
      cases hs
      cases hy'
      refine ⟨_, rfl, iteF ⟨_, rfl, iteF ?_⟩⟩
      refine ⟨rfl, _, rfl, iteF ⟨rfl, _, rfl, iteF ?_⟩⟩
      refine ⟨_, rfl, iteF ⟨_, rfl, iteF ?_⟩⟩
      refine ⟨_, rfl, iteT ?_⟩
      refine ⟨_, rfl, iteT ⟨rfl, ?_⟩⟩
      rw [decide_eq_true rfl]
      exact k H (Same.refl H)
    | _ => cases x <;> exact hs.elim
  · cases n with
    | zero => exact (hs hx).elim
    | succ n =>
      have D_law_alike := D_law_alike n rfl
      refine ⟨_, ((pss_cons (ps_if (PW.pt (pw_or (pt_val (qisi (isi_tuple _) T.isinstance T.tuple (qv 1))) (pw_or1 (pt_val (qisi (isi_list _) T.isinstance T.list (qv 1))))))
  (pss_cons (ps_if (PW.pt (pw_or (pt_cmpR (oq_ne K hu64) (qisi (isi_tuple _) T.isinstance T.tuple (qv 0)) (qisi (isi_tuple _) T.isinstance T.tuple (qv 1)) (nomark _)) (pw_or1 (pt_not (pt_val (pe_callB cr_isi2 (by rfl) T.isinstance (by decide +kernel) (pa_cons (qv 0) (pa_cons (pe_tup (pa_cons (pe_bltn (v := .ty "tuple") (by rfl) T.tuple (by decide +kernel) rfl) (pa_cons (pe_bltn (v := .ty "list") (by rfl) T.list (by decide +kernel) rfl) pa_nil))) pa_nil))))))))
  (pss_one (ps_ret pe_bl))
  pss_nil)
  (pss_cons (ps_if (pt_cmpR (oq_ne K hu64) (pe_callB (cq_len K) (by rfl) T.len (by decide +kernel) (pa_cons (qv 0) pa_nil)) (pe_callB (cq_len K) (by rfl) T.len (by decide +kernel) (pa_cons (qv 1) pa_nil)) (nomark _))
  (pss_one (ps_ret pe_bl))
  pss_nil)
  (pss_one (ps_ret (pe_cmpR (oq_eq K hu64) (pe_lc (own := [("_law_k", 2)]) (g := gName 2) (by rfl) sc.nd (pi_range1 (by rfl) T.range (pa_cons (pe_callB (cq_len K) (by rfl) T.len (by decide +kernel) (pa_cons (qv 1) pa_nil)) pa_nil)) (blkOk_by (own := [("_law_k", 2)]) (N := N_law_alike) (sc := defScope s_law_alike) (by decide +kernel)) (fun _ _ _ _ _ => (pg_name (i := 2) sc.nd rfl (by first | exact Or.inl rfl | exact Or.inr rfl))) (fun _ _ _ _ _ => (pts_one (pt_not (pt_val (qcall D_law_alike (by first | exact hr | exact hr.mono (by omega)) (pa_cons (pe_ix (iq K hu) (qv 0) (qv 2) (fun _ _ => rfl)) (pa_cons (pe_ix (iq K hu) (qv 1) (qv 2) (fun _ _ => rfl)) pa_nil))))))) (fun _ _ _ _ _ => (qv 2))) (pe_lst pa_nil) (nomark _))))))
  pss_nil)
  (pss_cons (ps_if (PW.pt (pw_or (pt_cmpR op_isN (qv 1) pe_non (nomark _)) (pw_or1 (pt_cmpR op_isN (qv 0) pe_non (nomark _)))))
  (pss_one (ps_ret (pe_and (pe_cmpR op_isN (qv 1) pe_non (nomark _)) (pe_one (pe_cmpR op_isN (qv 0) pe_non (nomark _))))))
  pss_nil)
  (pss_cons (ps_if (PW.pt (pw_or (pt_val (qisi (isi_bool _) T.isinstance T.bool (qv 1))) (pw_or1 (pt_val (qisi (isi_bool _) T.isinstance T.bool (qv 0))))))
  (pss_one (ps_ret (pe_and (qisi (isi_bool _) T.isinstance T.bool (qv 1)) (pe_and (qisi (isi_bool _) T.isinstance T.bool (qv 0)) (pe_one (pe_cmpR (oq_eq K hu64) (qv 0) (qv 1) (nomark _)))))))
  pss_nil)
  (pss_cons (ps_if (pt_val (qisi (isi_str _) T.isinstance T.str (qv 1)))
  (pss_one (ps_ret (pe_and (qisi (isi_str _) T.isinstance T.str (qv 0)) (pe_one (pe_cmpR (oq_eq K hu64) (qv 0) (qv 1) (nomark _))))))
  pss_nil)
  (pss_one (ps_ret (pe_and (qisi (isi_int _) T.isinstance T.int (qv 0)) (pe_one (pe_cmpR (oq_eq K hu64) (qv 0) (qv 1) (nomark _)))))))))) : PSs _ (_ :: _) _), ?_⟩
      rcases hx with h | ⟨a, xs, ds, e1, e2, ha, hl, r⟩ | ⟨a, xs, ds, e1, e2, ha, hl, r⟩
      · exact (hs h).elim
      · subst e1 e2
        rcases hy with h | ⟨b, ys, es, e1, e2, ha', hl', r'⟩ | ⟨b, ys, es, e1, e2, ha', hl', r'⟩
        · cases y <;> exact h.elim
        · subst e1
          cases e2
          have hxy : xs.length = ys.length := by rw [Paired.length r, Paired.length r']
          refine .inl ⟨_, ha', _, rfl, iteT (iteT ?_)⟩
          refine .inl ⟨_, ha, .inl ⟨_, ha', rfl, _, rfl, iteF ?_⟩⟩
          refine ⟨(by decide : 2 ≤ sizeLine), fun q hq => ⟨_, _, rfl, upd_same, .inl ⟨_, same_new hq _ _ _ ha, _, rfl, iteF ?_⟩⟩⟩
          have sh := same_new hq (.tup [.ty "tuple", .ty "list"])
          have ha := sh _ _ ha
          have ha' := sh _ _ ha'
          refine .inr (.inl ⟨_, SqT.of ha, .inr (.inl ⟨_, SqT.of ha', rfl, _, rfl, ?_⟩)⟩)
          rw [decide_eq_true (show V.int (xs.length : Nat) = V.int (ys.length : Nat) by rw [hxy])]
          refine iteF ?_
          refine .inr (.inl ⟨_, SqT.of ha', _, rfl, by omega, by omega, fun D hD => ?_⟩)
          refine lc_range (lo := 0) (n := ((ys.length : Nat) : Int).toNat) (fun i H' => Same _ H' ∧ H' D = some (.lst [])) ⟨same_new hD _, upd_same⟩ ?_ ?_
          · rintro i H2 hi ⟨s2, d2⟩
            have hi' : i < xs.length := by omega
            obtain ⟨x1, d1, g1, g2, g3⟩ := Paired.get2 r hi'
            obtain ⟨y1, d1', g1', g2', g3'⟩ := Paired.get2 r' (by omega : i < ys.length)
            rw [g2] at g2'
            cases g2'
            have z : (0 : Int) + (i : Int) = ((i : Nat) : Int) := by omega
            refine ⟨rfl, ?_⟩
            refine .inr (.inl ⟨_, _, SqT.of (s2 _ _ ha), (by rw [z]; exact atI_nat g1), .inr (.inl ⟨_, _, SqT.of (s2 _ _ ha'), (by rw [z]; exact atI_nat g1'), ?_⟩)⟩)
            refine ⟨_, _, _, rfl, (g3.same sh).same s2, (g3'.same sh).same s2, fun H3 s3 => ?_⟩
            refine ⟨_, rfl, iteF ?_⟩
            exact ⟨s2.trans s3, s3 _ _ d2⟩
          · rintro H2 ⟨s2, d2⟩
            refine ⟨(by decide : 0 ≤ sizeLine), fun E' hE' => ?_⟩
            have d3 := same_new hE' (.lst []) _ _ d2
            refine ⟨.list [], .list [], .lst (SqL.of d3) .nil, .lst (SqL.of upd_same) .nil, rfl, rfl, ?_⟩
            exact k _ ((sh.trans s2).trans (same_new hE' _))
        · cases e2
      · subst e1 e2
        rcases hy with h | ⟨b, ys, es, e1, e2, ha', hl', r'⟩ | ⟨b, ys, es, e1, e2, ha', hl', r'⟩
        · cases y <;> exact h.elim
        · cases e2
        · subst e1
          cases e2
          have hxy : xs.length = ys.length := by rw [Paired.length r, Paired.length r']
          refine .inr ⟨_, ha', _, rfl, iteF (.inr ⟨_, ha', _, rfl, iteT ?_⟩)⟩
          refine .inr ⟨_, ha, .inr ⟨_, ha', rfl, _, rfl, iteF ?_⟩⟩
          refine ⟨(by decide : 2 ≤ sizeLine), fun q hq => ⟨_, _, rfl, upd_same, .inr ⟨_, same_new hq _ _ _ ha, _, rfl, iteF ?_⟩⟩⟩
          have sh := same_new hq (.tup [.ty "tuple", .ty "list"])
          have ha := sh _ _ ha
          have ha' := sh _ _ ha'
          refine .inl ⟨_, SqL.of ha, .inl ⟨_, SqL.of ha', rfl, _, rfl, ?_⟩⟩
          rw [decide_eq_true (show V.int (xs.length : Nat) = V.int (ys.length : Nat) by rw [hxy])]
          refine iteF ?_
          refine .inl ⟨_, SqL.of ha', _, rfl, by omega, by omega, fun D hD => ?_⟩
          refine lc_range (lo := 0) (n := ((ys.length : Nat) : Int).toNat) (fun i H' => Same _ H' ∧ H' D = some (.lst [])) ⟨same_new hD _, upd_same⟩ ?_ ?_
          · rintro i H2 hi ⟨s2, d2⟩
            have hi' : i < xs.length := by omega
            obtain ⟨x1, d1, g1, g2, g3⟩ := Paired.get2 r hi'
            obtain ⟨y1, d1', g1', g2', g3'⟩ := Paired.get2 r' (by omega : i < ys.length)
            rw [g2] at g2'
            cases g2'
            have z : (0 : Int) + (i : Int) = ((i : Nat) : Int) := by omega
            refine ⟨rfl, ?_⟩
            refine .inl ⟨_, _, SqL.of (s2 _ _ ha), (by rw [z]; exact atI_nat g1), .inl ⟨_, _, SqL.of (s2 _ _ ha'), (by rw [z]; exact atI_nat g1'), ?_⟩⟩
            refine ⟨_, _, _, rfl, (g3.same sh).same s2, (g3'.same sh).same s2, fun H3 s3 => ?_⟩
            refine ⟨_, rfl, iteF ?_⟩
            exact ⟨s2.trans s3, s3 _ _ d2⟩
          · rintro H2 ⟨s2, d2⟩
            refine ⟨(by decide : 0 ≤ sizeLine), fun E' hE' => ?_⟩
            have d3 := same_new hE' (.lst []) _ _ d2
            refine ⟨.list [], .list [], .lst (SqL.of d3) .nil, .lst (SqL.of upd_same) .nil, rfl, rfl, ?_⟩
            exact k _ ((sh.trans s2).trans (same_new hE' _))
end
end Tm
set_option Elab.async false
set_option linter.all false
set_option maxRecDepth 100000
set_option maxHeartbeats 4000000
set_option pp.maxSteps 900
set_option pp.deepTerms false
namespace Tm
open PySem L2 TL
abbrev s_law : Stmt := top 50
abbrev N_law : List Str := ["_law_script", "_law_row_here", "_law_some", "_law_turn", "_law_text", "_law_change", "_law_one", "_law_lines", "_law_found", "_law_bad", "_law_line_here", "_law_k"]
abbrev P_law : List Str := ["_law_script"]
theorem sc_law : FnScope N_law P_law (defScope s_law) := ⟨rfl, rfl, rfl, by decide +kernel, rfl, by decide +kernel, by decide +kernel⟩
def usT : Rk → Bool
  | .text => true
  | _ => false
def qLam19 : Str := Str.ofString "law" ++ Str.ofString ".<locals>." ++ Str.ofString "<lambda>"
abbrev lam19 : Expr := eltE 0 (cmpLP ((ifsP ((forBodyP ((forBodyP ((defBody s_law).getD 7 stP0)).getD 2 stP0)).getD 3 stP0)).getD 0 stP0))
abbrev fr19 : List Str := ["_law_one"]
def clo19 (z : Addr) : List (Str × Addr) := [("_law_one", z + 3)]
theorem sc_lam19 : CloScope0 fr19 (lamS lam19) := scW0 rfl rfl rfl (by decide +kernel) (by decide +kernel) (by decide +kernel)
def spLaw (T2 : Addr) (K : PySem.W.Frag) : Sp := fun vs H Q _ => ∃ (a : Addr) (ns : List Int), vs = [.ref a] ∧ Frz K H a (ns.map V.int) ∧ ns.length ≤ 63 ∧ TblL qLam19 H T2 ∧ ∀ H', Q (.bl true) H'
def spRd19 (CT : Addr) (t : Str) : Hp → VK → XK → Prop := fun H _ E => ∃ i, BadL (linesOf t) i ∧ t.length ≤ 500000 ∧ ∀ dx H', Same H H' → H' dx = some (.xd [(("line" : Str), .int i)]) → E (.ref CT) (some dx) H'
theorem _root_.L2.TblL.by_so {q : Str} {H : Hp} {T2 so : Addr} {xs ys : List V} (h : TblL q H T2) (e : H so = some (.lst xs)) : TblL q (upd H so (.lst ys)) T2 := h.by_ (fun _ e2 => by rw [upd_ne (fun z => by rw [z, e] at e2; cases e2)]; exact e2) fun b p e2 => by rw [upd_ne (fun z => by rw [z, e] at e2; cases e2)]; exact e2
theorem BadL.uniq {ls : List Str} {i j : Nat} (h : BadL ls i) (h' : BadL ls j) : i = j := by
  obtain ⟨a1, a2, l, a3, a4⟩ := h
  obtain ⟨b1, b2, m, b3, b4⟩ := h'
  rcases Nat.lt_trichotomy i j with c | c | c
  · have := b1 i l c a3
    rcases a4 with q | q
    · omega
    · rw [this] at q; cases q
  · exact c
  · have := a1 j m c b3
    rcases b4 with q | q
    · omega
    · rw [this] at q; cases q
theorem BadL.not_good {ls : List Str} {i : Nat} (h : BadL ls i) (g : GoodL ls) : False := by
  obtain ⟨a1, a2, l, a3, a4⟩ := h
  have hi := (List.getElem?_eq_some_iff.mp a3).1
  have := g.2 l (List.mem_of_getElem? a3)
  have := g.1
  rcases a4 with q | q
  · omega
  · simp_all
section
variable {P : Program} {w : World} {K : PySem.W.Frag} {mg : Str → Option Value} {base : Heap}
theorem row_so {H : Hp} {R so : Addr} {xs ys : List V} (r : RowAt K H R) (n : so ≠ R) (e : H so = some (.lst xs)) : RowAt K (upd H so (.lst ys)) R := by
  obtain ⟨a, ns, i, s, c, hR, f, hl, hi⟩ := r
  refine ⟨a, ns, i, s, c, by rw [upd_ne (fun z => n z.symm)]; exact hR, ?_, hl, hi⟩
  rcases f with ⟨ob, e1⟩ | e1
  · exact .inl ⟨ob, by rw [upd_ne (fun z => by rw [z, e] at e1; cases e1)]; exact e1⟩
  · exact .inr e1
theorem lam19_ok {f cd : Addr} {cs : Rk → Addr} {t : Str} {pm ct : Value} {z : Addr} (DX_read : DfX P w K mg base 6 "read" P_read (spReadG (cs .text))) : LamOkC P w K mg base 7 f (fun h H outer => CellsAt h H outer (clo19 z) fr19 [.str t]) (fun H Q E => H f = some (.ext (phF f (PySem.W.kla_fn "<lambda>" qLam19 (lamA lam19) (lamB lam19) (lamS lam19) (clo19 z) pm (.ref cd) ct))) ∧ H cd = some (.ext (phC cd qLam19)) ∧ spRd19 (cs .text) t H Q E) := by
  refine lam_okC sc_lam19 (cloP_inj (by simp [clo19])) rfl rfl fun A outer s H Q E hr h => ⟨_, (qcallX DX_read (hr.mono (by omega)) (pass1c fun _ _ _ h => h) (pa_cons (qv 0) pa_nil)), ?_⟩
  obtain ⟨i, b, hl, hx⟩ := h
  refine ⟨t, rfl, hl, fun j bj dx H' s' e => ?_, fun g => ?_⟩
  · obtain rfl := b.uniq bj
    exact hx dx H' s' e
  · exact (b.not_good g).elim
theorem own19 {A : Around} {outer : List Env} {s : Shared} {H : Hp} {E : XK} {f : Addr} {cd : Value} {σ : St} {p : V} (h6 : σ[6]? = some (some p)) : ∀ pins s' H', Inv (cxOf CX0 P w K mg base N_law "law" (defScope s_law) f cd A outer s H E).nox pins σ H' s' → CellsAt s'.heap H' (cxOf CX0 P w K mg base N_law "law" (defScope s_law) f cd A outer s H E).nox.stack (clo19 s.heap.objs.size) fr19 [p] := fun pins s' H' I => by
  refine CellsAt.own I (fun x a h => ?_) (fun x => rfl) fun j x v e1 e2 => ?_
  · have m := PySem.mem_of_lookup h
    rcases List.mem_cons.mp m with m | m
    · cases m; rfl
    cases m
  · match j, e1, e2 with
    | 0, e1, e2 => cases e1; cases e2; exact ⟨6, rfl, h6, rfl, _, rfl⟩
    | j + 1, e1, _ => cases e1
theorem ok_law {f fW c0 T2 : Addr} {fd fdW : FuncData} {cs : Rk → Addr} (F : Fun K "law" "law" s_law f fd) (hcode : fd.code = .ref c0) (hC : PySem.W.codeHdIn K c0 T2 = true) (B : Bm base mg) (T : Tx mg)
    (FWd : Fun K "_law_word" "_law_word" s_law_word fW fdW) (FW : ∀ (clos : List (Str × Addr)) (fr : List Str) (ws : List V), FnOkC P w K mg base 8 fW fdW P_law_word (fun h H outer => CellsAt h H outer clos fr ws) (spWordC P w K mg base 7 cs usT clos fr ws)) (mW : mg "_law_word" = some (.ref fW)) (bW : Binds K fdW P_law_word [])
    (D_law_taken : Df P w K mg base 1 "_law_taken" P_law_taken [] (spTaken K)) (D_law_program : Df P w K mg base 4 "_law_program" P_law_program [] (spProg K)) (D_law_spoilt : Df P w K mg base 2 "_law_spoilt" P_law_spoilt [] (spSpoilt K)) (D_law_line : Df P w K mg base 2 "_law_line" P_law_line [] spLine)
    (D_read : Df P w K mg base 6 "read" P_read [] spReadO) (DX_read : DfX P w K mg base 6 "read" P_read (spReadG (cs .text))) (D_written : Df P w K mg base 7 "written" P_written [] spWritten) (D_law_alike : Df P w K mg base 3 "_law_alike" P_law_alike [] (spAlike 2)) : FnOk P w K mg base CX0 9 f fd P_law (spLaw T2 K) := by
  have sc := sc_law
  refine F.okD sc (fun vs H Q E h => ?_) (fun A outer s H vs Q E hr h => ?_)
  · obtain ⟨a, ns, rfl, _⟩ := h
    rfl
  obtain ⟨a, ns, rfl, far, hl, t1, k⟩ := h
  have hu := hu_of hr
  have hu64 := hr.units
  refine ⟨_, ((pss_cons (ps_set (i := 1) sc.nd rfl (by first | exact Or.inl rfl | exact Or.inr rfl) (pe_lst (pa_cons (qv 0) (pa_cons pe_int (pa_cons pe_int (pa_cons pe_int pa_nil))))))
  (pss_cons (ps_set (i := 2) sc.nd rfl (by first | exact Or.inl rfl | exact Or.inr rfl) (pe_lst (pa_lits [.str "", .str "\n", .str "end", .str "end\n", .str "go 1", .str "go 0", .str "say 8", .str "put 0 10000", .str "put 0 -10000", .str "put 0 00", .str "end 0"] (by decide +kernel))))
  (pss_cons (ps_set (i := 2) sc.nd rfl (by first | exact Or.inl rfl | exact Or.inr rfl) (pe_op (oq_add K) (qv 2) (pe_lst (pa_lits [.str "Add 0 0 0", .str "add 0 0", .str " end", .str "end ", .str "if 0 1\nend", .str "gate 0 1 1", .str "gate 0 1 2", .str "fewer 0 1 -"] (by decide +kernel)))))
  (pss_cons (ps_set (i := 2) sc.nd rfl (by first | exact Or.inl rfl | exact Or.inr rfl) (pe_op (oq_add K) (qv 2) (pe_lst (pa_lits [.str "fewer 0 1 ", .str "fewer 0 1 -g", .str "get 0 1 -64", .str "set 0 -63 1", .str "put 0 -0", .str "put 0 -"] (by decide +kernel)))))
  (pss_cons (ps_expr (pe_bm PySem.F.plainAttrs_list PySem.F.slot_list_append PySem.F.type_list_append mt_append (qv 2) (pa_cons (pe_join pe_str (pe_op oq_mul (pe_lst (pa_cons pe_str pa_nil)) pe_int)) pa_nil)))
  (pss_cons (ps_expr (pe_bm PySem.F.plainAttrs_list PySem.F.slot_list_append PySem.F.type_list_append mt_append (qv 2) (pa_cons (pe_join pe_str (pe_op oq_mul (pe_lst (pa_cons pe_str pa_nil)) pe_int)) pa_nil)))
  (pss_cons (ps_expr (pe_bm PySem.F.plainAttrs_list PySem.F.slot_list_append PySem.F.type_list_append mt_append (qv 2) (pa_cons (pe_join pe_str (pe_op oq_mul (pe_lst (pa_cons pe_str pa_nil)) pe_int)) pa_nil)))
  (pss_cons (ps_for PassesOwn.never rfl (pi_range1 (by rfl) T.range (pa_cons pe_int pa_nil)) (pg_name (i := 3) sc.nd rfl (by first | exact Or.inl rfl | exact Or.inr rfl))
  (pss_cons (ps_set (i := 4) sc.nd rfl (by first | exact Or.inl rfl | exact Or.inr rfl) (qcall D_written (by first | exact hr | exact hr.mono (by omega)) (pa_cons (qcall D_law_program (by first | exact hr | exact hr.mono (by omega)) (pa_cons (qv 1) (pa_cons (pe_ix (iq K hu) (pe_lst (pa_lits [.int 6, .int 30] (by decide +kernel))) (qcall D_law_taken (by first | exact hr | exact hr.mono (by omega)) (pa_cons (qv 1) (pa_cons pe_int pa_nil))) (fun _ _ => rfl)) pa_nil))) pa_nil)))
  (pss_cons (ps_for PassesOwn.never rfl (pi_range1 (by rfl) T.range (pa_cons (qcall D_law_taken (by first | exact hr | exact hr.mono (by omega)) (pa_cons (qv 1) (pa_cons pe_int pa_nil))) pa_nil)) (pg_name (i := 5) sc.nd rfl (by first | exact Or.inl rfl | exact Or.inr rfl))
  (pss_one (ps_set (i := 4) sc.nd rfl (by first | exact Or.inl rfl | exact Or.inr rfl) (qcall D_law_spoilt (by first | exact hr | exact hr.mono (by omega)) (pa_cons (qv 1) (pa_cons (qv 4) pa_nil))))))
  (pss_one (ps_for PassesOwn.never rfl (pi_list (pe_lst (pa_cons (qv 4) (pa_cons (pe_ix (iq K hu) (qv 2) (qcall D_law_taken (by first | exact hr | exact hr.mono (by omega)) (pa_cons (qv 1) (pa_cons pe_int pa_nil))) (fun _ _ => rfl)) pa_nil)))) (pg_name (i := 6) sc.nd rfl (by first | exact Or.inl rfl | exact Or.inr rfl))
  (pss_cons (ps_set (i := 7) sc.nd rfl (by first | exact Or.inl rfl | exact Or.inr rfl) (pe_split (qv 6) pe_str))
  (pss_cons (ps_set (i := 8) sc.nd rfl (by first | exact Or.inl rfl | exact Or.inr rfl) (pe_lc (own := [("_law_line_here", 10)]) (g := gName 10) (by rfl) sc.nd (pi_list (qv 7)) (blkOk_by (own := [("_law_line_here", 10)]) (N := N_law) (sc := defScope s_law) (by decide +kernel)) (fun _ _ _ _ _ => (pg_name (i := 10) sc.nd rfl (by first | exact Or.inl rfl | exact Or.inr rfl))) (fun _ _ _ _ _ => pts_nil) (fun _ _ _ _ _ => (qcall D_law_line (by first | exact hr | exact hr.mono (by omega)) (pa_cons (qv 10) (pa_cons (pe_callB (cq_len K) (by rfl) T.len (by decide +kernel) (pa_cons (qv 7) pa_nil)) pa_nil))))))
  (pss_cons (ps_setLc (i := 9) (own := [("_law_k", 11)]) (g := gName 11) (by rfl) sc.nd rfl rfl (sw_true rfl rfl rfl (by decide +kernel)) (pi_range1 (by rfl) T.range (pa_cons (pe_callB (cq_len K) (by rfl) T.len (by decide +kernel) (pa_cons (qv 8) pa_nil)) pa_nil)) (blkOk_by (own := [("_law_k", 11)]) (N := N_law) (sc := defScope s_law) (by decide +kernel)) (fun _ _ _ _ _ => (pg_name (i := 11) sc.nd rfl (by first | exact Or.inl rfl | exact Or.inr rfl))) (fun _ _ _ _ _ => (pts_one (PW.pt (pw_or (pt_cmpR op_isN (pe_ix (iq K hu) (qv 8) (qv 11) (fun _ _ => rfl)) pe_non (nomark _)) (pw_or1 (pt_cmpR oq_gt (qv 11) pe_int (nomark _))))))) (fun _ _ _ _ _ => (qv 11)))
  (pss_one (ps_if (pt_cmpR (oq_ne K hu64) (qv 9) (pe_lst pa_nil) (nomark _))
  (pss_one (ps_if (pt_cmpR (oq_ne K hu64) (qcallH mW FWd.kp bW (by first | exact hr | exact hr.mono (by omega)) (pa_cons (pe_lam (clos := clo19 s.heap.objs.size) B hcode hC (by rfl) rfl) pa_nil)) (pe_tup (pa_cons pe_str (pa_cons (pe_ix (iq K hu) (qv 9) pe_int (fun _ _ => rfl)) pa_nil))) (nomark _))
  (pss_one (ps_ret pe_bl))
  pss_nil))
  (pss_one (ps_if (pt_not (pt_val (qcall D_law_alike (by first | exact hr | exact hr.mono (by omega)) (pa_cons (qcall D_read (by first | exact hr | exact hr.mono (by omega)) (pa_cons (qv 6) pa_nil)) (pa_cons (pe_callTy call_tuple_of (by rfl) T.tuple (by decide +kernel) (pa_cons (qv 8) pa_nil)) pa_nil)))))
  (pss_one (ps_ret pe_bl))
  pss_nil))))))))))))
  (pss_one (ps_ret pe_bl)))))))))) : PSs _ (_ :: _) _), ?_⟩
  refine ⟨(by decide : 4 ≤ sizeLine), fun R hR => ?_⟩
  have s1 := same_new hR (.lst [.ref a, .int 0, .int 0, .int 0])
  have r1 : RowAt K (upd H R (.lst [.ref a, .int 0, .int 0, .int 0])) R := RowAt.put far hl (by decide) (soft_none hR)
  replace t1 := t1.same s1
  generalize upd H R (.lst [.ref a, .int 0, .int 0, .int 0]) = H1 at r1 t1 ⊢
  clear s1 hR far hl
  have tyL : ∀ {H' : Hp} {p : Addr} {ys : List V}, H' p = some (.lst ys) → tyV K "list" (.ref p) H' := fun {H' p ys} e => .inl ⟨rfl, _, SqL.of e⟩
  -- the texts that are told
  refine ⟨(by decide : 11 ≤ sizeLine), fun sa hsa => ?_⟩
  have q := same_new hsa (.lst [V.str "", V.str "\n", V.str "end", V.str "end\n", V.str "go 1", V.str "go 0", V.str "say 8", V.str "put 0 10000", V.str "put 0 -10000", V.str "put 0 00", V.str "end 0"])
  have ea : upd H1 sa (.lst [V.str "", V.str "\n", V.str "end", V.str "end\n", V.str "go 1", V.str "go 0", V.str "say 8", V.str "put 0 10000", V.str "put 0 -10000", V.str "put 0 00", V.str "end 0"]) sa = some (.lst (s11.map V.str)) := upd_same
  replace r1 := r1.same q
  replace t1 := t1.same q
  generalize upd H1 sa (.lst [V.str "", V.str "\n", V.str "end", V.str "end\n", V.str "go 1", V.str "go 0", V.str "say 8", V.str "put 0 10000", V.str "put 0 -10000", V.str "put 0 00", V.str "end 0"]) = H2 at ea r1 t1 ⊢
  clear q hsa
  refine ⟨(by decide : 8 ≤ sizeLine), fun sb hsb => ?_⟩
  have q := same_new hsb (.lst [V.str "Add 0 0 0", V.str "add 0 0", V.str " end", V.str "end ", V.str "if 0 1\nend", V.str "gate 0 1 1", V.str "gate 0 1 2", V.str "fewer 0 1 -"])
  have eb : upd H2 sb (.lst [V.str "Add 0 0 0", V.str "add 0 0", V.str " end", V.str "end ", V.str "if 0 1\nend", V.str "gate 0 1 1", V.str "gate 0 1 2", V.str "fewer 0 1 -"]) sb = some (.lst (s8.map V.str)) := upd_same
  replace ea := q _ _ ea
  replace r1 := r1.same q
  replace t1 := t1.same q
  generalize upd H2 sb (.lst [V.str "Add 0 0 0", V.str "add 0 0", V.str " end", V.str "end ", V.str "if 0 1\nend", V.str "gate 0 1 1", V.str "gate 0 1 2", V.str "fewer 0 1 -"]) = H3 at ea eb r1 t1 ⊢
  clear q hsb
  refine .inl ⟨_, _, _, _, rfl, rfl, ea, eb, (by decide +kernel), fun sc' hsc => ?_⟩
  rw [← List.map_append]
  have q := same_new hsc (.lst ((s11 ++ s8).map V.str))
  have ec : upd H3 sc' (.lst ((s11 ++ s8).map V.str)) sc' = some (.lst ((s11 ++ s8).map V.str)) := upd_same
  replace r1 := r1.same q
  replace t1 := t1.same q
  generalize upd H3 sc' (.lst ((s11 ++ s8).map V.str)) = H4 at ec r1 t1 ⊢
  clear q hsc ea eb
  refine ⟨(by decide : 6 ≤ sizeLine), fun sd hsd => ?_⟩
  have q := same_new hsd (.lst [V.str "fewer 0 1 ", V.str "fewer 0 1 -g", V.str "get 0 1 -64", V.str "set 0 -63 1", V.str "put 0 -0", V.str "put 0 -"])
  have ed : upd H4 sd (.lst [V.str "fewer 0 1 ", V.str "fewer 0 1 -g", V.str "get 0 1 -64", V.str "set 0 -63 1", V.str "put 0 -0", V.str "put 0 -"]) sd = some (.lst (s6.map V.str)) := upd_same
  replace ec := q _ _ ec
  replace r1 := r1.same q
  replace t1 := t1.same q
  generalize upd H4 sd (.lst [V.str "fewer 0 1 ", V.str "fewer 0 1 -g", V.str "get 0 1 -64", V.str "set 0 -63 1", V.str "put 0 -0", V.str "put 0 -"]) = H5 at ec ed r1 t1 ⊢
  clear q hsd
  refine .inl ⟨_, _, _, _, rfl, rfl, ec, ed, (by decide +kernel), fun so hso => ?_⟩
  rw [← List.map_append]
  have sR : so ≠ R := r1.ne hso
  have q := same_new hso (.lst (((s11 ++ s8) ++ s6).map V.str))
  have es : upd H5 so (.lst (((s11 ++ s8) ++ s6).map V.str)) so = some (.lst (((s11 ++ s8) ++ s6).map V.str)) := upd_same
  replace r1 := r1.same q
  replace t1 := t1.same q
  generalize upd H5 so (.lst (((s11 ++ s8) ++ s6).map V.str)) = Hs at es r1 t1 ⊢
  clear q hso ec ed
  -- 61 lines
  refine ⟨tyL es, ?_⟩
  refine ⟨⟨_, rfl⟩, ?_⟩
  refine ⟨(by decide : 1 ≤ sizeLine), fun m1 hm1 => ?_⟩
  refine ⟨_, _, _, rfl, rfl, upd_same, by decide, by decide, (by decide : 1 * 61 ≤ sizeLine), fun m2 hm2 => ?_⟩
  have q := (same_new hm1 (.lst [V.str "end"])).trans (same_new hm2 (.lst (List.replicate (61 : Int).toNat [V.str "end"]).flatten))
  have em : upd (upd Hs m1 (.lst [V.str "end"])) m2 (.lst (List.replicate (61 : Int).toNat [V.str "end"]).flatten) m2 = some (.lst ((List.replicate 61 (Str.ofString "end")).map V.str)) := by
    rw [upd_same, ← rep_strs]
    rfl
  replace es := q _ _ es
  replace r1 := r1.same q
  replace t1 := t1.same q
  generalize upd (upd Hs m1 (.lst [V.str "end"])) m2 (.lst (List.replicate (61 : Int).toNat [V.str "end"]).flatten) = Ha0 at em es r1 t1 ⊢
  clear q hm1 hm2
  have L := rep_ok (n := 61) (z := Str.ofString "end") (by decide) (tok_lit (by decide +kernel)) (by decide +kernel)
  refine ⟨_, m2, List.replicate 61 (Str.ofString "end"), rfl, rfl, .inl (SqL.of em), Nat.le_trans (L.sum (by decide +kernel)) (by decide), ?_⟩
  clear L em
  have ej : Txt.join (Str.ofString "\n") (List.replicate 61 (Str.ofString "end")) = jn 61 "end" := rfl
  rw [ej]
  clear ej
  refine ⟨so, _, _, rfl, rfl, es, (by rw [List.length_map]; exact Nat.lt_of_le_of_lt (show ((s11 ++ s8) ++ s6).length ≤ 30 by decide) (by decide)), ?_⟩
  have q := upd_same (H := Ha0) (a := so) (o := .lst (((s11 ++ s8) ++ s6).map V.str ++ [V.str (jn 61 "end")]))
  have r1 : RowAt K (upd Ha0 so (.lst (((s11 ++ s8) ++ s6).map V.str ++ [V.str (jn 61 "end")]))) R := row_so r1 sR es
  have t1 : TblL qLam19 (upd Ha0 so (.lst (((s11 ++ s8) ++ s6).map V.str ++ [V.str (jn 61 "end")]))) T2 := t1.by_so es
  generalize upd Ha0 so (.lst (((s11 ++ s8) ++ s6).map V.str ++ [V.str (jn 61 "end")])) = Hd0 at q r1 t1 ⊢
  have es : Hd0 so = some (.lst (((s11 ++ s8) ++ s6 ++ [jn 61 "end"]).map V.str)) := by
    rw [q, List.map_append]
    rfl
  clear q
  -- 60 lines
  refine ⟨tyL es, ?_⟩
  refine ⟨⟨_, rfl⟩, ?_⟩
  refine ⟨(by decide : 1 ≤ sizeLine), fun m1 hm1 => ?_⟩
  refine ⟨_, _, _, rfl, rfl, upd_same, by decide, by decide, (by decide : 1 * 60 ≤ sizeLine), fun m2 hm2 => ?_⟩
  have q := (same_new hm1 (.lst [V.str "end"])).trans (same_new hm2 (.lst (List.replicate (60 : Int).toNat [V.str "end"]).flatten))
  have em : upd (upd Hd0 m1 (.lst [V.str "end"])) m2 (.lst (List.replicate (60 : Int).toNat [V.str "end"]).flatten) m2 = some (.lst ((List.replicate 60 (Str.ofString "end")).map V.str)) := by
    rw [upd_same, ← rep_strs]
    rfl
  replace es := q _ _ es
  replace r1 := r1.same q
  replace t1 := t1.same q
  generalize upd (upd Hd0 m1 (.lst [V.str "end"])) m2 (.lst (List.replicate (60 : Int).toNat [V.str "end"]).flatten) = Ha1 at em es r1 t1 ⊢
  clear q hm1 hm2
  have L := rep_ok (n := 60) (z := Str.ofString "end") (by decide) (tok_lit (by decide +kernel)) (by decide +kernel)
  refine ⟨_, m2, List.replicate 60 (Str.ofString "end"), rfl, rfl, .inl (SqL.of em), Nat.le_trans (L.sum (by decide +kernel)) (by decide), ?_⟩
  clear L em
  have ej : Txt.join (Str.ofString "\n") (List.replicate 60 (Str.ofString "end")) = jn 60 "end" := rfl
  rw [ej]
  clear ej
  refine ⟨so, _, _, rfl, rfl, es, (by rw [List.length_map]; exact Nat.lt_of_le_of_lt (show (((s11 ++ s8) ++ s6) ++ [jn 61 "end"]).length ≤ 30 by decide) (by decide)), ?_⟩
  have q := upd_same (H := Ha1) (a := so) (o := .lst ((((s11 ++ s8) ++ s6) ++ [jn 61 "end"]).map V.str ++ [V.str (jn 60 "end")]))
  have r1 : RowAt K (upd Ha1 so (.lst ((((s11 ++ s8) ++ s6) ++ [jn 61 "end"]).map V.str ++ [V.str (jn 60 "end")]))) R := row_so r1 sR es
  have t1 : TblL qLam19 (upd Ha1 so (.lst ((((s11 ++ s8) ++ s6) ++ [jn 61 "end"]).map V.str ++ [V.str (jn 60 "end")]))) T2 := t1.by_so es
  generalize upd Ha1 so (.lst ((((s11 ++ s8) ++ s6) ++ [jn 61 "end"]).map V.str ++ [V.str (jn 60 "end")])) = Hd1 at q r1 t1 ⊢
  have es : Hd1 so = some (.lst ((((s11 ++ s8) ++ s6) ++ [jn 61 "end"] ++ [jn 60 "end"]).map V.str)) := by
    rw [q, List.map_append]
    rfl
  clear q
  -- 61 lines
  refine ⟨tyL es, ?_⟩
  refine ⟨⟨_, rfl⟩, ?_⟩
  refine ⟨(by decide : 1 ≤ sizeLine), fun m1 hm1 => ?_⟩
  refine ⟨_, _, _, rfl, rfl, upd_same, by decide, by decide, (by decide : 1 * 61 ≤ sizeLine), fun m2 hm2 => ?_⟩
  have q := (same_new hm1 (.lst [V.str "go 60"])).trans (same_new hm2 (.lst (List.replicate (61 : Int).toNat [V.str "go 60"]).flatten))
  have em : upd (upd Hd1 m1 (.lst [V.str "go 60"])) m2 (.lst (List.replicate (61 : Int).toNat [V.str "go 60"]).flatten) m2 = some (.lst ((List.replicate 61 (Str.ofString "go 60")).map V.str)) := by
    rw [upd_same, ← rep_strs]
    rfl
  replace es := q _ _ es
  replace r1 := r1.same q
  replace t1 := t1.same q
  generalize upd (upd Hd1 m1 (.lst [V.str "go 60"])) m2 (.lst (List.replicate (61 : Int).toNat [V.str "go 60"]).flatten) = Ha2 at em es r1 t1 ⊢
  clear q hm1 hm2
  have L := rep_ok (n := 61) (z := Str.ofString "go 60") (by decide) (tok_lit (by decide +kernel)) (by decide +kernel)
  refine ⟨_, m2, List.replicate 61 (Str.ofString "go 60"), rfl, rfl, .inl (SqL.of em), Nat.le_trans (L.sum (by decide +kernel)) (by decide), ?_⟩
  clear L em
  have ej : Txt.join (Str.ofString "\n") (List.replicate 61 (Str.ofString "go 60")) = jn 61 "go 60" := rfl
  rw [ej]
  clear ej
  refine ⟨so, _, _, rfl, rfl, es, (by rw [List.length_map]; exact Nat.lt_of_le_of_lt (show ((((s11 ++ s8) ++ s6) ++ [jn 61 "end"]) ++ [jn 60 "end"]).length ≤ 30 by decide) (by decide)), ?_⟩
  have q := upd_same (H := Ha2) (a := so) (o := .lst (((((s11 ++ s8) ++ s6) ++ [jn 61 "end"]) ++ [jn 60 "end"]).map V.str ++ [V.str (jn 61 "go 60")]))
  have r1 : RowAt K (upd Ha2 so (.lst (((((s11 ++ s8) ++ s6) ++ [jn 61 "end"]) ++ [jn 60 "end"]).map V.str ++ [V.str (jn 61 "go 60")]))) R := row_so r1 sR es
  have t1 : TblL qLam19 (upd Ha2 so (.lst (((((s11 ++ s8) ++ s6) ++ [jn 61 "end"]) ++ [jn 60 "end"]).map V.str ++ [V.str (jn 61 "go 60")]))) T2 := t1.by_so es
  generalize upd Ha2 so (.lst (((((s11 ++ s8) ++ s6) ++ [jn 61 "end"]) ++ [jn 60 "end"]).map V.str ++ [V.str (jn 61 "go 60")])) = Hd2 at q r1 t1 ⊢
  have es : Hd2 so = some (.lst (((((s11 ++ s8) ++ s6) ++ [jn 61 "end"]) ++ [jn 60 "end"] ++ [jn 61 "go 60"]).map V.str)) := by
    rw [q, List.map_append]
    rfl
  clear q
  have es : Hd2 so = some (.lst (someL.map V.str)) := es
  have okS := some_ok
  have lS : someL.length = 28 := by decide +kernel
  generalize someL = zs at es okS lS
  refine ⟨5, rfl, by decide, by decide, ?_⟩
  refine for_range (lo := 0) (n := (5 : Int).toNat) (fun _ σ H2 => RowAt K H2 R ∧ TblL qLam19 H2 T2 ∧ H2 so = some (.lst (zs.map V.str)) ∧ ∃ a3 a4 a5 a6 a7 a8 a9 a10 a11, σ = [some (.ref a), some (.ref R), some (.ref so), a3, a4, a5, a6, a7, a8, a9, a10, a11]) ⟨r1, t1, es, _, _, _, _, _, _, _, _, _, rfl⟩ ?_ ?_
  rotate_left
  · rintro σ H2 ⟨r2, _⟩
    exact k H2
  clear r1 t1 es
  rintro i σ H2 hi ⟨r2, t2, es, a3, a4, a5, a6, a7, a8, a9, a10, a11, rfl⟩
  -- a program's text
  refine ⟨(by decide : 2 ≤ sizeLine), fun lp hlp => ?_⟩
  have lpR := r2.ne hlp
  have o2 := (On.refl r2).new hlp (.lst [.int 6, .int 30])
  have ep : upd H2 lp (.lst [.int 6, .int 30]) lp = some (.lst [.int 6, .int 30]) := upd_same
  generalize upd H2 lp (.lst [.int 6, .int 30]) = H3 at o2 ep ⊢
  refine ⟨R, 2, rfl, o2.row, by decide, by decide, fun n H4 n0 n1 o4 => ?_⟩
  obtain ⟨m, em, m0, m1⟩ : ∃ m : Int, atI [V.int 6, .int 30] n = some (.int m) ∧ 0 < m ∧ m ≤ 60 := by
    obtain rfl | rfl : n = 0 ∨ n = 1 := by omega
    · exact ⟨6, rfl, by decide, by decide⟩
    · exact ⟨30, rfl, by decide, by decide⟩
  refine .inl ⟨_, _, SqL.of (o4.at ep lpR), em, ?_⟩
  replace o2 := o2.trans o4
  clear o4 ep lpR em n0 n1
  refine ⟨R, m, rfl, o2.row, m0, m1, fun pv H5 xs o5 pr okp => ?_⟩
  refine ⟨_, xs, rfl, pr, okp, fun H6 s6 => ?_⟩
  obtain ⟨tk, tln⟩ := tok_prog okp
  have o6 := (o2.trans o5).same s6
  generalize wProg xs = tx at tk tln ⊢
  clear o2 o5 s6 pr okp m0 m1
  -- spoilt
  refine ⟨R, 4, rfl, o6.row, by decide, by decide, fun n H7 n0 n1 o7 => ?_⟩
  replace o6 := o6.trans o7
  clear o7
  refine ⟨n, rfl, by omega, by omega, ?_⟩
  refine for_range (lo := 0) (n := n.toNat) (fun j σ H8 => On K R H2 H8 ∧ ∃ (t : Str) (a5' : _), TOk t ∧ t.length ≤ bndT j ∧ σ = [some (.ref a), some (.ref R), some (.ref so), some (.int (0 + (i : Int))), some (.str t), a5', a6, a7, a8, a9, a10, a11]) ⟨o6, tx, a5, tk, tln, rfl⟩ ?_ ?_
  · rintro j σ H8 hj ⟨o8, t, a5', tk', tl', rfl⟩
    refine ⟨R, t, rfl, o8.row, tk', Nat.le_trans tl' (bnd_lt (by omega)), fun z H9 o9 tz lz => ?_⟩
    refine ⟨o8.trans o9, z, _, tz, ?_, rfl⟩
    show z.length ≤ 6 * bndT j + 40
    omega
  rintro σ H8 ⟨o8, t, a5', tk', tl', rfl⟩
  have tl' : t.length ≤ 400000 := Nat.le_trans tl' (bnd_le (by omega))
  clear tk tln o6 n0 n1
  have r8 := o8.row
  have t8 := t2.on r2 o8
  have e8 := o8.at es sR
  clear o8 r2 t2 es
  -- two texts
  refine ⟨R, 28, rfl, r8, by decide, by decide, fun g H9 g0 g1 o9 => ?_⟩
  have r9 := o9.row
  have t9 := t8.on r8 o9
  have e9 := o9.at e8 sR
  obtain ⟨m, rfl⟩ := Int.eq_ofNat_of_zero_le g0
  obtain ⟨z, ez⟩ : ∃ z, zs[m]? = some z := ⟨_, List.getElem?_eq_getElem (by omega)⟩
  obtain ⟨tz, lz⟩ := okS z (List.mem_of_getElem? ez)
  refine .inl ⟨_, .str z, SqL.of e9, atI_nat (by rw [List.getElem?_map, ez]; rfl), ?_⟩
  clear o9 r8 t8 e8 ez g0 g1
  refine ⟨(by decide : 2 ≤ sizeLine), fun L hL => ?_⟩
  have q := same_new hL (.lst [.str t, .str z])
  have eL : upd H9 L (.lst [.str t, .str z]) L = some (.lst [.str t, .str z]) := upd_same
  replace r9 := r9.same q
  replace t9 := t9.same q
  replace e9 := q _ _ e9
  generalize upd H9 L (.lst [.str t, .str z]) = Hl at eL r9 t9 e9 ⊢
  clear q hL
  refine ⟨L, rfl, ⟨_, SqL.of eL⟩, ?_⟩
  have two : ∀ j, j < 2 → ∃ y : Str, [V.str t, V.str z][j]? = some (.str y) ∧ TOk y ∧ y.length ≤ 400000 := fun j hj => by
    obtain rfl | rfl : j = 0 ∨ j = 1 := by omega
    · exact ⟨t, rfl, tk', tl'⟩
    · exact ⟨z, rfl, tz, by omega⟩
  have l2 : ([V.str t, V.str z] : List V).length = 2 := rfl
  clear tz lz tk'
  generalize ([V.str t, V.str z] : List V) = ps at eL two l2
  refine for_by (n := 2) (fun j σ H2 => RowAt K H2 R ∧ TblL qLam19 H2 T2 ∧ H2 so = some (.lst (zs.map V.str)) ∧ H2 L = some (.lst ps) ∧ ∃ a6 a7 a8 a9 a10 a11, σ = [some (.ref a), some (.ref R), some (.ref so), some (.int (0 + (i : Int))), some (.str t), a5', a6, a7, a8, a9, a10, a11]) ⟨r9, t9, e9, eL, _, _, _, _, _, _, rfl⟩ ?_ ?_ ?_ ?_
  · rintro j σ H2 hj ⟨_, _, _, eL, _⟩
    obtain ⟨y, e1, _⟩ := two j hj
    exact ⟨_, _, SqL.of eL, e1⟩
  · rintro σ H2 ⟨_, _, _, eL, _⟩
    exact ⟨_, SqL.of eL, Nat.le_of_eq l2⟩
  rotate_left
  · rintro σ H2 ⟨r2, t2, es, _, a6', a7', a8', a9', a10', a11', rfl⟩
    exact ⟨r2, t2, es, _, _, _, _, _, _, _, _, _, rfl⟩
  clear r9 t9 e9 eL a6 a7 a8 a9 a10 a11 a3 a4 a5
  rintro j σ H0 v Hj hj ⟨r2, t2, es, eL, a6, a7, a8, a9, a10, a11, rfl⟩ ⟨rfl, hy⟩
  replace hy := hy _ (SqL.of eL)
  obtain ⟨u, e1, tky, tly⟩ := two j hj
  rw [hy] at e1
  cases e1
  clear hy two
  -- its lines
  refine ⟨⟨_, rfl⟩, _, _, rfl, rfl, by decide +kernel, (by have : u.length + 2 ≤ 1000000 := by omega
                                                           exact small_le this), fun p hp => ?_⟩
  have e0 : Txt.split u "\n" = linesOf u := rfl
  rw [e0]
  have hm : (linesOf u).length ≤ 500000 := by
    have := cut_many (w := u) line_ne line_k
    show (Txt.split u (Str.ofString "\n")).length ≤ _
    omega
  have hll : ∀ l ∈ linesOf u, l.length ≤ 500000 := fun l h => Nat.le_trans (cut_len line_ne line_k l h) (by omega)
  have htk : ∀ l ∈ linesOf u, TOk l := TOk.cut tky line_ne line_k
  obtain ⟨ls, els⟩ : ∃ ls, linesOf u = ls := ⟨_, rfl⟩
  have rd : (GoodL ls → GoodL (linesOf u)) ∧ (∀ b, BadL ls b → BadL (linesOf u) b) ∧ ∀ H us, RowsAt H us (linesOf u) → RowsAt H us ls := by
    rw [els]
    exact ⟨id, fun _ => id, fun _ _ => id⟩
  rw [els] at hm hll htk ⊢
  clear els e0
  have q := same_new hp (.lst (ls.map V.str))
  have ep : upd Hj p (.lst (ls.map V.str)) p = some (.lst (ls.map V.str)) := upd_same
  replace r2 := r2.same q
  replace t2 := t2.same q
  replace es := q _ _ es
  replace eL := q _ _ eL
  generalize upd Hj p (.lst (ls.map V.str)) = H1 at ep r2 t2 es eL ⊢
  clear q hp
  have la : (ls.map V.str).length = ls.length := List.length_map ..
  -- what is found
  refine ⟨p, rfl, ⟨_, SqL.of ep⟩, fun D hD => ?_⟩
  refine lc_by (n := ls.length) (fun i H2 => Same H1 H2 ∧ ∃ vs, H2 D = some (.lst vs) ∧ FndAt (ls.length : Nat) H2 vs (ls.take i)) ⟨same_new hD _, [], upd_same, .nil⟩ ?_ ?_ ?_ ?_
  · rintro i H2 hi ⟨s2, d2⟩
    exact ⟨_, _, SqL.of (s2 _ _ ep), List.getElem?_eq_getElem (by omega)⟩
  · rintro H2 ⟨s2, d2⟩
    exact ⟨_, SqL.of (s2 _ _ ep), by omega⟩
  · rintro i H2 v H2' hi ⟨s2, vs, d2, f2⟩ ⟨rfl, hv⟩
    replace hv := hv _ (SqL.of (s2 _ _ ep))
    rw [List.getElem?_map] at hv
    obtain ⟨l, el, rfl⟩ := Option.map_eq_some_iff.mp hv
    have ml := List.mem_of_getElem? el
    refine ⟨rfl, ?_⟩
    refine .inl ⟨_, SqL.of (s2 _ _ ep), ?_⟩
    rw [la]
    refine ⟨l, _, rfl, hll l ml, htk l ml, fun v H3 s3 hv => ?_⟩
    have d3 := s3 _ _ d2
    have lv := Paired.length f2
    have tp : Tups H3 (upd H3 D (.lst (vs ++ [v]))) := Tups.upd (soft_lst d3)
    refine ⟨_, d3, ?_, fill_same hD s2 s3, vs ++ [v], upd_same, ?_⟩
    · rw [lv]
      exact small_m (Nat.le_trans (List.length_take_le' _ _) (by omega))
    · rw [List.take_succ, el]
      exact pair_app (Paired.mapP f2 fun _ _ q => fnd_mono tp (fnd_mono (Same.tups s3) q)) (.cons (fnd_mono tp hv) .nil)
  rintro H2 ⟨s2, vs, d2, f2⟩
  rw [List.take_length] at f2
  have lv : vs.length = ls.length := Paired.length f2
  replace r2 := r2.same s2
  replace t2 := t2.same s2
  replace es := s2 _ _ es
  replace eL := s2 _ _ eL
  clear s2 ep hD hll htk la
  -- which are bad
  refine .inl ⟨_, SqL.of d2, ⟨_, rfl, by omega, by omega, fun D2 hD2 => ?_⟩⟩
  refine lc_range (lo := 0) (n := ((vs.length : Nat) : Int).toNat) (fun i H3 => Same H2 H3 ∧ H3 D2 = some (.lst ((((List.range i).filter (badK (ls.length : Nat) ls)).map fun k : Nat => (k : Int)).map V.int))) ⟨same_new hD2 _, upd_same⟩ ?_ ?_
  · rintro i H3 hi ⟨s3, d3⟩
    have hi' : i < vs.length := by omega
    obtain ⟨v, l, ev, el, fv⟩ := Paired.get2 f2 hi'
    have ak := badK_at (n := (ls.length : Nat)) el
    have put : badK (ls.length : Nat) ls i = true → ∃ acc, H3 D2 = some (.lst acc) ∧ acc.length < sizeLine ∧ Same H2 (upd H3 D2 (.lst (acc ++ [V.int (0 + (i : Int))]))) ∧ upd H3 D2 (.lst (acc ++ [V.int (0 + (i : Int))])) D2 = some (.lst ((((List.range (i + 1)).filter (badK (ls.length : Nat) ls)).map fun k : Nat => (k : Int)).map V.int)) := fun c => by
      refine ⟨_, d3, ?_, fun b' o' e' => ?_, ?_⟩
      · rw [List.length_map, List.length_map]
        refine small_m (Nat.le_trans (List.length_filter_le _ _) ?_)
        rw [List.length_range]
        omega
      · rw [upd_ne (ne_of_none e' hD2)]
        exact s3 _ _ e'
      · rw [upd_same, List.range_succ, List.filter_append, List.filter_cons, if_pos c, List.map_append, List.map_append, Int.zero_add]
        rfl
    have skip : badK (ls.length : Nat) ls i = false → Same H2 H3 ∧ H3 D2 = some (.lst ((((List.range (i + 1)).filter (badK (ls.length : Nat) ls)).map fun k : Nat => (k : Int)).map V.int)) := fun c => by
      refine ⟨s3, ?_⟩
      rw [List.range_succ, List.filter_append, List.filter_cons, if_neg (by rw [c]; exact Bool.false_ne_true), List.filter_nil, List.append_nil]
      exact d3
    refine ⟨rfl, ?_⟩
    refine .inl ⟨_, v, SqL.of (s3 _ _ d2), (by rw [Int.zero_add]; exact atI_nat ev), ?_⟩
    refine ⟨rfl, _, rfl, ?_⟩
    by_cases c : v = .non
    · refine iteT' (decide_eq_true c) (iteT ?_)
      refine put ?_
      rw [ak]
      have : ¬ rowB (ls.length : Nat) (rowV l) = true := fun z => by
        rw [if_pos z] at fv
        obtain ⟨t, e, _⟩ := fv
        rw [c] at e
        cases e
      rw [Bool.eq_false_iff.mpr this]
      rfl
    · refine iteF' (decide_eq_false c) ?_
      have hb : rowB (ls.length : Nat) (rowV l) = true := by
        cases z : rowB (ls.length : Nat) (rowV l) with
        | true => rfl
        | false =>
          rw [if_neg (by rw [z]; exact Bool.false_ne_true)] at fv
          exact absurd fv c
      refine ⟨_, rfl, ?_⟩
      rw [hb] at ak
      refine ite2 (fun q => ?_) (fun q => ?_)
      · refine put (ak.trans ?_)
        have q := of_decide_eq_true q
        exact decide_eq_true (by omega)
      · refine skip (ak.trans ?_)
        have q := of_decide_eq_false (Bool.eq_false_iff.mpr q)
        exact decide_eq_false (by omega)
  rintro H3 ⟨s3, d3⟩
  rw [show ((vs.length : Nat) : Int).toNat = ls.length by omega] at d3
  replace d2 := s3 _ _ d2
  replace f2 := f2.tups (Same.tups s3)
  replace r2 := r2.same s3
  replace t2 := t2.same s3
  replace es := s3 _ _ es
  replace eL := s3 _ _ eL
  clear s3 hD2
  generalize hfb : (List.range ls.length).filter (badK (ls.length : Nat) ls) = fb at d3
  -- the first
  refine ⟨(by decide : 0 ≤ sizeLine), fun n0 hn0 => ?_⟩
  have q := same_new hn0 (.lst [])
  have e0 : upd H3 n0 (.lst []) n0 = some (.lst (([] : List Int).map V.int)) := upd_same
  replace d2 := q _ _ d2
  replace d3 := q _ _ d3
  replace f2 := f2.tups (Same.tups q)
  replace r2 := r2.same q
  replace t2 := t2.same q
  replace es := q _ _ es
  replace eL := q _ _ eL
  generalize upd H3 n0 (.lst []) = H4 at d2 d3 f2 r2 t2 es eL e0 ⊢
  clear q hn0
  refine ⟨_, _, nums_dp (SqL.of d3), nums_dp (SqL.of e0), nums_shaped _, nums_shaped _, ?_⟩
  rw [show numsD ([] : List Int) = .list [] from rfl, nums_eq_nil]
  refine ⟨_, rfl, ?_⟩
  cases fb with
  | nil =>
    refine iteF ?_
    have g := good_of hfb
    refine ⟨u, rfl, by omega, rd.1 g, fun p2 us H5 s5 ep2 ra => ?_⟩
    replace ra := rd.2.2 _ _ ra
    refine ⟨D, vs, rfl, .inl ⟨SqL.of (s5 _ _ d2), fun ta hta => ?_⟩⟩
    have q := same_new hta (.tup vs)
    have eta : upd H5 ta (.tup vs) ta = some (.tup vs) := upd_same
    have rb : RowsAt (upd H5 ta (.tup vs)) vs ls := (f2.tups (Same.tups (s5.trans q))).rows g.2
    refine ⟨_, _, _, rfl, (ra.same q).dq (q _ _ ep2) g.1, rb.dq eta g.1, fun H6 s6 => ⟨_, rfl, iteF ?_⟩⟩
    have S := (s5.trans q).trans s6
    exact ⟨r2.same S, t2.same S, S _ _ es, S _ _ eL, _, _, _, _, _, _, rfl⟩
  | cons b rest =>
    refine iteT ?_
    have bd := rd.2.1 _ (bad_of hfb)
    refine ⟨_, _, FW (clo19 s.heap.objs.size) fr19 [.str u], own19 rfl, ?_⟩
    refine ⟨t2, fun f1 c1 pm1 ct1 H5 nf1 kp1 t5 f1e c1e n1 m1 => ?_⟩
    have kx : ∀ {x : Addr} {ys : List V}, H4 x = some (.lst ys) → H5 x = some (.lst ys) := fun e => kp1 _ _ (t2.ne e fun _ y => by cases y) e
    replace r2 := row_lam r2 t2 kp1
    replace d3 := kx d3
    replace es := kx es
    replace eL := kx eL
    refine ⟨f1, _, (fun _ => False), (fun kd j H6 => kd = .text ∧ j = b ∧ Same H5 H6), rfl, lam19_ok (t := u) DX_read, fun Q' E' g1 g2 => ⟨f1e, c1e, b, bd, by omega, fun dx H6 s6 e => g2 .text b (some dx) H6 rfl ⟨rfl, rfl, s6⟩ (.inr ⟨_, dx, rfl, rfl, e⟩)⟩, fun H6 z => z.elim, fun kd j H6 t' H7 _ z s7 et => ?_⟩
    obtain ⟨rfl, rfl, s6⟩ := z
    have S := s6.trans s7
    refine .inl ⟨_, _, SqL.of (S _ _ d3), at0 _ _, ?_⟩
    refine ⟨(by show 2 ≤ sizeLine; decide), fun q hq => ?_⟩
    have s8 := same_new hq (.tup [.str "text", .int b])
    refine pair_ne (z := "text") (by decide +kernel) (s8 _ _ et) upd_same ?_
    refine ⟨_, rfl, iteF ?_⟩
    replace S := S.trans s8
    exact ⟨r2.same S, t5.same S, S _ _ es, S _ _ eL, _, _, _, _, _, _, rfl⟩
end
end Tm
set_option Elab.async false
set_option linter.all false
set_option maxRecDepth 100000
set_option maxHeartbeats 1000000
namespace Tm
open PySem L2
structure At (K : PySem.W.Frag) (x : Str) (st : Stmt) (f : Addr) (fd : FuncData) : Prop where
  ns : PySem.W.nsIn K mainGlobals x = some (some (.ref f))
  fn : FunD K x x st f fd
end Tm
set_option Elab.async false
set_option linter.all false
set_option maxRecDepth 100000
set_option maxHeartbeats 1000000
namespace Tm
open PySem L2
theorem fn_mk {K : PySem.W.Frag} {x : Str} {st : Stmt} {f : Addr} {oc : Value} {od an : Option Addr} {osl : Array (Option Value)} {kV doc pm cdv ct : Value} (a : PySem.W.nsIn K mainGlobals x = some (some (.ref f)))
    (l : K.lookup f = some ⟨oc, od, .func (PySem.W.fnOf x x (defArgs st) (defBody st) (defScope st) .none kV doc pm an cdv ct), osl⟩) (c : PySem.W.codeIn K cdv x = true) (k : PySem.W.keepIn K (.ref f) = true) : ∃ f fd, PySem.W.nsIn K mainGlobals x = some (some (.ref f)) ∧ Fun K x x st f fd :=
  ⟨f, _, a, fun_mk l c k⟩
theorem df_mk {P : Program} {w : World} {K : PySem.W.Frag} {mg : Str → Option Value} {base : Heap} {x : Str} {st : Stmt} {f : Addr} {fd : FuncData} {ps : List Str} {k : Nat} {sp : Sp} (m : mg x = some (.ref f)) (F : Fun K x x st f fd)
    (b : ∀ (kV doc pm : Value) (an : Option Addr) (cdv ct : Value) (us : List Value), us.length = ps.length → bindArgs (PySem.W.fnOf x x (defArgs st) (defBody st) (defScope st) .none kV doc pm an cdv ct) ⟨us, []⟩ = pure (ps.zip us)) (ok : FnOk P w K mg base CX0 k f fd ps sp) : Df P w K mg base k x ps [] sp :=
  ⟨f, fd, [], ok, m, F.kp, F.binds b, .nil⟩
theorem ci_mk {K : PySem.W.Frag} {x : Str} {i : Int} {t : Tok} (a : PySem.W.nsIn K mainGlobals x = some (some (.int i t))) : ∃ t, PySem.W.nsIn K mainGlobals x = some (some (.int i t)) := ⟨t, a⟩
theorem cs_mk {K : PySem.W.Frag} {x z : Str} {t : Tok} (a : PySem.W.nsIn K mainGlobals x = some (some (.str z t))) : ∃ t, PySem.W.nsIn K mainGlobals x = some (some (.str z t)) := ⟨t, a⟩
theorem binds1 {K : PySem.W.Frag} {x p : Str} {st : Stmt} {f : Addr} {fd : FuncData} (F : Fun K x x st f fd)
    (b : ∀ (kV doc pm : Value) (an : Option Addr) (cdv ct : Value) (us : List Value), us.length = [p].length → bindArgs (PySem.W.fnOf x x (defArgs st) (defBody st) (defScope st) .none kV doc pm an cdv ct) ⟨us, []⟩ = pure ([p].zip us)) (s : Shared) (u : Value) : BindsTo s fd ⟨[u], []⟩ [(p, u)] := by
  obtain ⟨oc, od, kV, doc, pm, an, cdv, ct, osl, rfl, lk, hcd⟩ := F.ex
  exact .of_eq (b kV doc pm an cdv ct [u] rfl)
end Tm
set_option Elab.async false
set_option linter.all false
set_option maxRecDepth 100000
set_option maxHeartbeats 1000000
namespace Tm
open PySem L2
theorem fnC_mk {K : PySem.W.Frag} {x : Str} {st : Stmt} {f c T : Addr} {oc : Value} {od an : Option Addr} {osl : Array (Option Value)} {kV doc pm ct : Value} (a : PySem.W.nsIn K mainGlobals x = some (some (.ref f)))
    (l : K.lookup f = some ⟨oc, od, .func (PySem.W.fnOf x x (defArgs st) (defBody st) (defScope st) .none kV doc pm an (.ref c) ct), osl⟩) (h : PySem.W.codeIn K (.ref c) x = true) (k : PySem.W.keepIn K (.ref f) = true) (hd : PySem.W.codeHdIn K c T = true) :
    ∃ f fd, PySem.W.nsIn K mainGlobals x = some (some (.ref f)) ∧ Fun K x x st f fd ∧ ∃ c, fd.code = .ref c ∧ PySem.W.codeHdIn K c T = true :=
  ⟨f, _, a, fun_mk l h k, c, rfl, hd⟩
theorem frz_onlyT {K : PySem.W.Frag} {H : Hp} {a : Addr} {xs : List V} {ts : List Addr} (hO : OnlyT ts H) (hS : SqL K H a xs) : Frz K H a xs := by
  rcases hS with (h | ⟨o, h⟩) | h
  · rcases hO.all a with z | ⟨o, ys, z⟩ | ⟨_, z⟩
    · rw [h] at z
      cases z
    · rw [h] at z
      cases z
    · rw [h] at z
      cases z
  · exact .inl ⟨o, h⟩
  · exact .inr h
end Tm
set_option Elab.async false
set_option linter.all false
set_option maxRecDepth 100000
set_option maxHeartbeats 1000000
namespace Tm
open PySem L2
end Tm
set_option Elab.async false
set_option linter.all false
set_option maxRecDepth 100000
set_option maxHeartbeats 1000000
namespace L2
open PySem PySem.Spec PyProof.Rows
section
variable {X : Cx} {k : Nat} {f : Addr} {fd : FuncData} {x : Str} {ps : List Str} {t : TA} {e : Expr} {es : List Expr} {p pos : Pos} {E : XK}
end
end L2
set_option Elab.async false
set_option linter.all false
set_option maxRecDepth 100000
set_option maxHeartbeats 1000000
namespace Tm
open PySem L2
theorem nsIn_has {K : PySem.W.Frag} {h : Heap} {N : Addr} {m : Str → Option Value} {n : Str} {v : Value} (X : K.In h) (G : h.Ns N m) (e : PySem.W.nsIn K N n = some (some v)) : m n = some v := by
  obtain ⟨o, es, ep, ho, hd, _, hf⟩ := G
  unfold PySem.W.nsIn at e
  split at e
  · rename_i c d es2 n2 sl q
    have q2 := X _ _ q
    rw [ho] at q2
    cases q2
    cases hd
    split at e
    · rename_i en he
      cases e
      rw [← hf]
      unfold nsFind findBy
      rw [← Array.find?_toList, he]
      rfl
    · split at e <;> cases e
  · cases e
def csOf (c1 c2 c3 c4 c5 c6 c7 : Addr) : Rk → Addr
  | .program => c1 | .word => c2 | .rooms => c3 | .fuel => c4 | .cell => c5 | .over => c6 | .text => c7
theorem ownI_of {K : PySem.W.Frag} {C fI N : Addr} {dd : Option Addr} {nm qn : Str} {bs bm : List Value} {hd ab : Bool} {sn : List Str} {sub : List Value} {col : Option Bool} {k0 k1 k2 k3 k5 : Option Value} (l : K.lookup C = some (excClassObj nm qn C N bs bm hd sn sub ab col dd k0 k1 k2 k3 k5 "ValueError.__new__"))
    (t : PySem.W.tailIn K bmVE bm = true) (o : PySem.W.nsOkIn K N = true) (i : PySem.W.nsIn K N "__init__" = some (some (.ref fI))) : ∀ h : Heap, K.In h → OwnI C fI bmVE "ValueError.__new__" h := fun h X =>
  have G : h.Ns N (h.nsMap N) := Heap.Ns.of_isNs (PySem.W.isNs_of_in X o)
  ⟨bm, N, nm, qn, bs, hd, sn, sub, ab, col, dd, k0, k1, k2, k3, k5, _, X _ _ l, G, nsIn_has X G i, PySem.W.tail_of_in X t⟩
theorem exc19_mk {P : Program} {K : PySem.W.Frag} {c1 c2 c3 c4 c5 c6 c7 CT : Addr} {cd_text : ClassData} {fI_text N_text cc_text cda_text : Addr} {dd_text od_text an_text cdd_text cld_text : Option Addr} {nm_text qn_text file_text : Str} {bs_text bm_text sub_text : List Value} {hb_text ab_text : Bool} {sn_text : List Str} {col_text : Option Bool} {k0_text k1_text k2_text k3_text k5_text : Option Value} {oc_text kV_text doc_text pm_text ct_text ccl_text cl_text : Value} {osl_text ccs_text csl_text : Array (Option Value)} {vs_text : Array Value} {tf_text : Tok} {st_text : Stmt}
    (m_program : PySem.W.nsIn K mainGlobals "BadProgram" = some (some (.ref c1)))
    (m_word : PySem.W.nsIn K mainGlobals "BadWord" = some (some (.ref c2)))
    (m_rooms : PySem.W.nsIn K mainGlobals "BadRooms" = some (some (.ref c3)))
    (m_fuel : PySem.W.nsIn K mainGlobals "BadFuel" = some (some (.ref c4)))
    (m_cell : PySem.W.nsIn K mainGlobals "BadCell" = some (some (.ref c5)))
    (m_over : PySem.W.nsIn K mainGlobals "Over" = some (some (.ref c6)))
    (m_text : PySem.W.nsIn K mainGlobals "BadText" = some (some (.ref c7)))
    (tag : PySem.W.nsIn K mainGlobals "TagError" = some (some (.ref CT)))
    (ve : PySem.W.nsIn K mainGlobals "ValueError" = some none)
    (xn : PySem.W.specialIn K (.builtin "object.__class__") "__get__" = some (some (.builtin "getset_descriptor.__get__")))
    (xt : PySem.W.takesIn K (.builtin "object.__class__") = some true)
    (no : PySem.W.nsIn K cStatics "thirdparty.any" = some none)
    (top : (P.main.scope.names.lookup ("super" : Str)).isSome = false)
    (hit_text : PySem.W.exmOne K (.ref c7) (.ref CT) = some true)
    (g_text : PySem.W.findIn K (.ref c7) "__getattribute__" = some (some (.builtin "BaseException.__getattribute__")))
    (g2_text : PySem.W.findIn K (.ref c7) "__getattr__" = some none)
    (b_text : PySem.W.mroIn K c7 (.type "BaseException") = some true)
    (a_text : PySem.W.findIn K (.ref c7) "__class__" = some (some (.builtin "object.__class__")))
    (o_text : PySem.W.mroIn K c7 (.type "object") = some true)
    (c_text : PySem.W.clsIn K c7 = some cd_text)
    (k_text_program : PySem.W.kitOne K (.ref c7) (.ref c1) = some false)
    (k_text_word : PySem.W.kitOne K (.ref c7) (.ref c2) = some false)
    (k_text_rooms : PySem.W.kitOne K (.ref c7) (.ref c3) = some false)
    (k_text_fuel : PySem.W.kitOne K (.ref c7) (.ref c4) = some false)
    (k_text_cell : PySem.W.kitOne K (.ref c7) (.ref c5) = some false)
    (k_text_over : PySem.W.kitOne K (.ref c7) (.ref c6) = some false)
    (k_text_text : PySem.W.kitOne K (.ref c7) (.ref c7) = some true)
    (vy_text : PySem.W.kitOne K (.ref c7) (.type "ValueError") = some true)
    (hd_text : PySem.W.hasDictIn K c7 = true)
    (n_text : PySem.W.findIn K (.ref c7) "line" = some none)
    (kp_text : PySem.W.keepIn K (.ref c7) = true)
    (l_text : K.lookup c7 = some (excClassObj nm_text qn_text c7 N_text bs_text bm_text hb_text sn_text sub_text ab_text col_text dd_text k0_text k1_text k2_text k3_text k5_text "ValueError.__new__"))
    (t_text : PySem.W.tailIn K bmVE bm_text = true)
    (ok_text : PySem.W.nsOkIn K N_text = true)
    (i_text : PySem.W.nsIn K N_text "__init__" = some (some (.ref fI_text)))
    (lf_text : K.lookup fI_text = some ⟨oc_text, od_text, .func (PySem.W.fnX "__init__" "BadText.__init__" (defArgs st_text) (defBody st_text) (defScope st_text) [("__class__", cc_text)] .none kV_text doc_text pm_text an_text (.ref cda_text) ct_text), osl_text⟩)
    (cI_text : PySem.W.codeIn K (.ref cda_text) "BadText.__init__" = true)
    (kI_text : PySem.W.keepIn K (.ref fI_text) = true)
    (tI_text : PySem.W.typeIn K (.ref fI_text) = some (.type "function"))
    (co_text : K.lookup cda_text = some ⟨ccl_text, cdd_text, .fields vs_text, ccs_text⟩)
    (vf_text : vs_text[2]? = some (.str file_text tf_text))
    (fi_text : ((P.main.file : Str) == file_text) = true)
    (ce_text : K.lookup cc_text = some ⟨cl_text, cld_text, .cell (some (.ref c7)), csl_text⟩)
    (ss_text : PySem.W.mroIn K c7 (.ref c7) = some true)
    (sv_text : PySem.W.mroIn K c7 (.type "ValueError") = some true)
    (su_text : PySem.W.ks_superIn K c7 c7 "__init__" = some (some (.builtin "ValueError.__init__")))
    (sa_text : PySem.W.findIn K (.ref c7) "__setattr__" = some (some (.builtin "object.__setattr__")))
    (ov_text : (PySem.W.clsIn K c7).any (fun cd => dropRefs cd.mro == bmVE) = true)
    : ∃ c1 c2 c3 c4 c5 c6 c7 CT, PySem.W.nsIn K mainGlobals "BadProgram" = some (some (.ref c1)) ∧ PySem.W.nsIn K mainGlobals "BadWord" = some (some (.ref c2)) ∧ PySem.W.nsIn K mainGlobals "BadRooms" = some (some (.ref c3)) ∧ PySem.W.nsIn K mainGlobals "BadFuel" = some (some (.ref c4)) ∧ PySem.W.nsIn K mainGlobals "BadCell" = some (some (.ref c5)) ∧ PySem.W.nsIn K mainGlobals "Over" = some (some (.ref c6)) ∧ PySem.W.nsIn K mainGlobals "BadText" = some (some (.ref c7)) ∧ (∀ mg : Str → Option Value, (∀ {x : Str} {o : Value}, PySem.W.nsIn K mainGlobals x = some (some o) → mg x = some o) → (∀ {x : Str}, PySem.W.nsIn K mainGlobals x = some none → mg x = none) → RkM mg CT (csOf c1 c2 c3 c4 c5 c6 c7)) ∧ (∀ kd, usT kd = true → RkK K CT (csOf c1 c2 c3 c4 c5 c6 c7) kd) ∧ (∃ f cc cda fd, FunS K "__init__" "BadText.__init__" st_text f cc cda fd ∧ (∀ mg : Str → Option Value, mg "super" = none → SupE P K mg c7 f cc cda) ∧ (∀ h : Heap, PySem.W.Frag.In K h → OwnI c7 f bmVE "ValueError.__new__" h) ∧ XSt K c7 ∧ PySem.W.findIn K (.ref c7) "line" = some none ∧ PySem.W.typeIn K (.ref f) = some (.type "function") ∧ PySem.W.keepIn K (.ref c7) = true) :=
  ⟨c1, c2, c3, c4, c5, c6, c7, CT, m_program, m_word, m_rooms, m_fuel, m_cell, m_over, m_text, (fun mg M M0 => ⟨M tag, M0 ve, fun kd => match kd with | .program => M m_program | .word => M m_word | .rooms => M m_rooms | .fuel => M m_fuel | .cell => M m_cell | .over => M m_over | .text => M m_text⟩), (fun kd h => match kd, h with | .text, _ => ⟨hit_text, ⟨g_text, g2_text, b_text, a_text, xn, xt, o_text⟩, (by show (PySem.W.clsIn K c7).isSome = true; rw [c_text]; rfl), (fun kd2 => match kd2 with | .program => k_text_program | .word => k_text_word | .rooms => k_text_rooms | .fuel => k_text_fuel | .cell => k_text_cell | .over => k_text_over | .text => k_text_text), vy_text, fun a e => (by cases e; exact ⟨⟨g_text, g2_text, b_text, a_text, xn, xt, o_text⟩, hd_text, n_text⟩)⟩), ⟨fI_text, cc_text, cda_text, _, ⟨⟨oc_text, od_text, kV_text, doc_text, pm_text, an_text, ct_text, osl_text, rfl, lf_text, cI_text⟩, kI_text⟩, (fun mg hb => ⟨⟨_, _, _, _, _, _, co_text, vf_text, fi_text⟩, ⟨_, _, _, ce_text⟩, ⟨_, c_text⟩, ss_text, sv_text, no, su_text, top, hb⟩), ownI_of l_text t_text ok_text i_text, ⟨sa_text, o_text, ov_text, hd_text⟩, n_text, tI_text, kp_text⟩⟩
theorem bindsS {K : PySem.W.Frag} {x qual : Str} {st : Stmt} {f cc cda : Addr} {fd : FuncData} {ps : List Str} (F : FunS K x qual st f cc cda fd)
    (b : ∀ (kV doc pm : Value) (an : Option Addr) (cc cda : Addr) (ct : Value) (us : List Value), us.length = ps.length → bindArgs (PySem.W.fnX x qual (defArgs st) (defBody st) (defScope st) [("__class__", cc)] .none kV doc pm an (.ref cda) ct) ⟨us, []⟩ = pure (ps.zip us)) : Binds K fd ps [] := by
  obtain ⟨oc, od, kV, doc, pm, an, ct, osl, rfl, lk, hcd⟩ := F.ex
  intro s us _ hl
  rw [List.append_nil] at hl ⊢
  exact .of_eq (b kV doc pm an cc cda ct us hl)
theorem dfx_mk {P : Program} {w : World} {K : PySem.W.Frag} {mg : Str → Option Value} {base : Heap} {x : Str} {st : Stmt} {f : Addr} {fd : FuncData} {ps : List Str} {k : Nat} {sp : Sp} (m : mg x = some (.ref f)) (F : Fun K x x st f fd)
    (b : ∀ (kV doc pm : Value) (an : Option Addr) (cdv ct : Value) (us : List Value), us.length = ps.length → bindArgs (PySem.W.fnOf x x (defArgs st) (defBody st) (defScope st) .none kV doc pm an cdv ct) ⟨us, []⟩ = pure (ps.zip us)) (ok : FnOk P w K mg base (CX1 P w) k f fd ps sp) : DfX P w K mg base k x ps sp :=
  ⟨f, fd, ok, m, F.kp, F.binds b⟩
end Tm
set_option Elab.async false
set_option linter.all false
set_option maxRecDepth 100000
set_option maxHeartbeats 1000000
namespace Tm
open PySem L2
theorem shapes_mk {w : World} {K : PySem.W.Frag} {sa : Addr} {o : Obj} {es : Array DictEntry} {ep : Nat} {t0 t1 t2 t3 t4 t5 t6 t7 t8 t9 t10 t11 t12 t13 t14 t15 t16 t17 t18 : Addr} {o0 o1 o2 o3 o4 o5 o6 o7 o8 o9 o10 o11 o12 o13 o14 o15 o16 o17 o18 : Obj} {i0 i1 i2 i3 i4 i5 i6 i7 i8 i9 i10 i11 i12 i13 i14 i15 i16 i17 i18 : Array Value} {n0 n1 n2 n3 n4 n5 n6 n7 n8 n9 n10 n11 n12 n13 n14 n15 n16 n17 n18 : Nat}
    (a : PySem.W.nsIn K mainGlobals "SHAPES" = some (some (.ref sa))) (l : K.lookup sa = some o) (x : o.ExactDict) (d : o.data = .dict es ep)
    (e : Ents w es.toList [(.inr "put", .ref t0), (.inr "move", .ref t1), (.inr "add", .ref t2), (.inr "take", .ref t3), (.inr "less", .ref t4), (.inr "same", .ref t5), (.inr "is", .ref t6), (.inr "get", .ref t7), (.inr "set", .ref t8), (.inr "narrow", .ref t9), (.inr "fewer", .ref t10), (.inr "gate", .ref t11), (.inr "enter", .ref t12), (.inr "room", .ref t13), (.inr "shut", .ref t14), (.inr "say", .ref t15), (.inr "go", .ref t16), (.inr "if", .ref t17), (.inr "end", .ref t18)])
    (nd : (([Sum.inr (Str.ofString "put"), Sum.inr (Str.ofString "move"), Sum.inr (Str.ofString "add"), Sum.inr (Str.ofString "take"), Sum.inr (Str.ofString "less"), Sum.inr (Str.ofString "same"), Sum.inr (Str.ofString "is"), Sum.inr (Str.ofString "get"), Sum.inr (Str.ofString "set"), Sum.inr (Str.ofString "narrow"), Sum.inr (Str.ofString "fewer"), Sum.inr (Str.ofString "gate"), Sum.inr (Str.ofString "enter"), Sum.inr (Str.ofString "room"), Sum.inr (Str.ofString "shut"), Sum.inr (Str.ofString "say"), Sum.inr (Str.ofString "go"), Sum.inr (Str.ofString "if"), Sum.inr (Str.ofString "end")] : List Key)).Nodup) (ns : (sa == sysModules) = false)
    (l0 : K.lookup t0 = some o0) (c0 : o0.cls = .type "tuple") (d0 : o0.data = .seq i0 n0) (z0 : i0.size ≤ sizeLine) (v0 : Vals ((["box", "number"] : List Str).map V.str) i0.toList)
    (l1 : K.lookup t1 = some o1) (c1 : o1.cls = .type "tuple") (d1 : o1.data = .seq i1 n1) (z1 : i1.size ≤ sizeLine) (v1 : Vals ((["box", "box"] : List Str).map V.str) i1.toList)
    (l2 : K.lookup t2 = some o2) (c2 : o2.cls = .type "tuple") (d2 : o2.data = .seq i2 n2) (z2 : i2.size ≤ sizeLine) (v2 : Vals ((["box", "box", "box"] : List Str).map V.str) i2.toList)
    (l3 : K.lookup t3 = some o3) (c3 : o3.cls = .type "tuple") (d3 : o3.data = .seq i3 n3) (z3 : i3.size ≤ sizeLine) (v3 : Vals ((["box", "box", "box"] : List Str).map V.str) i3.toList)
    (l4 : K.lookup t4 = some o4) (c4 : o4.cls = .type "tuple") (d4 : o4.data = .seq i4 n4) (z4 : i4.size ≤ sizeLine) (v4 : Vals ((["box", "box", "box"] : List Str).map V.str) i4.toList)
    (l5 : K.lookup t5 = some o5) (c5 : o5.cls = .type "tuple") (d5 : o5.data = .seq i5 n5) (z5 : i5.size ≤ sizeLine) (v5 : Vals ((["box", "box", "box"] : List Str).map V.str) i5.toList)
    (l6 : K.lookup t6 = some o6) (c6 : o6.cls = .type "tuple") (d6 : o6.data = .seq i6 n6) (z6 : i6.size ≤ sizeLine) (v6 : Vals ((["box", "box"] : List Str).map V.str) i6.toList)
    (l7 : K.lookup t7 = some o7) (c7 : o7.cls = .type "tuple") (d7 : o7.data = .seq i7 n7) (z7 : i7.size ≤ sizeLine) (v7 : Vals ((["box", "box", "far"] : List Str).map V.str) i7.toList)
    (l8 : K.lookup t8 = some o8) (c8 : o8.cls = .type "tuple") (d8 : o8.data = .seq i8 n8) (z8 : i8.size ≤ sizeLine) (v8 : Vals ((["box", "far", "box"] : List Str).map V.str) i8.toList)
    (l9 : K.lookup t9 = some o9) (c9 : o9.cls = .type "tuple") (d9 : o9.data = .seq i9 n9) (z9 : i9.size ≤ sizeLine) (v9 : Vals ((["box", "box", "box"] : List Str).map V.str) i9.toList)
    (l10 : K.lookup t10 = some o10) (c10 : o10.cls = .type "tuple") (d10 : o10.data = .seq i10 n10) (z10 : i10.size ≤ sizeLine) (v10 : Vals ((["box", "box", "rights"] : List Str).map V.str) i10.toList)
    (l11 : K.lookup t11 = some o11) (c11 : o11.cls = .type "tuple") (d11 : o11.data = .seq i11 n11) (z11 : i11.size ≤ sizeLine) (v11 : Vals ((["box", "box", "row or end"] : List Str).map V.str) i11.toList)
    (l12 : K.lookup t12 = some o12) (c12 : o12.cls = .type "tuple") (d12 : o12.data = .seq i12 n12) (z12 : i12.size ≤ sizeLine) (v12 : Vals ((["box"] : List Str).map V.str) i12.toList)
    (l13 : K.lookup t13 = some o13) (c13 : o13.cls = .type "tuple") (d13 : o13.data = .seq i13 n13) (z13 : i13.size ≤ sizeLine) (v13 : Vals ((["box"] : List Str).map V.str) i13.toList)
    (l14 : K.lookup t14 = some o14) (c14 : o14.cls = .type "tuple") (d14 : o14.data = .seq i14 n14) (z14 : i14.size ≤ sizeLine) (v14 : Vals ((["box"] : List Str).map V.str) i14.toList)
    (l15 : K.lookup t15 = some o15) (c15 : o15.cls = .type "tuple") (d15 : o15.data = .seq i15 n15) (z15 : i15.size ≤ sizeLine) (v15 : Vals ((["box"] : List Str).map V.str) i15.toList)
    (l16 : K.lookup t16 = some o16) (c16 : o16.cls = .type "tuple") (d16 : o16.data = .seq i16 n16) (z16 : i16.size ≤ sizeLine) (v16 : Vals ((["row"] : List Str).map V.str) i16.toList)
    (l17 : K.lookup t17 = some o17) (c17 : o17.cls = .type "tuple") (d17 : o17.data = .seq i17 n17) (z17 : i17.size ≤ sizeLine) (v17 : Vals ((["box", "row"] : List Str).map V.str) i17.toList)
    (l18 : K.lookup t18 = some o18) (c18 : o18.cls = .type "tuple") (d18 : o18.data = .seq i18 n18) (z18 : i18.size ≤ sizeLine) (v18 : Vals (([] : List Str).map V.str) i18.toList)
    : ∃ sa, PySem.W.nsIn K mainGlobals "SHAPES" = some (some (.ref sa)) ∧ ∃ kvs, KDict w K sa kvs ∧ ShapesKV K kvs :=
  ⟨sa, a, _, ⟨⟨o, es, ep, l, x, d, e⟩, nd, ns⟩, .cons ⟨rfl, t0, rfl, (fun H => .inr ⟨o0, i0, n0, l0, c0, d0, z0, v0⟩)⟩ (.cons ⟨rfl, t1, rfl, (fun H => .inr ⟨o1, i1, n1, l1, c1, d1, z1, v1⟩)⟩ (.cons ⟨rfl, t2, rfl, (fun H => .inr ⟨o2, i2, n2, l2, c2, d2, z2, v2⟩)⟩ (.cons ⟨rfl, t3, rfl, (fun H => .inr ⟨o3, i3, n3, l3, c3, d3, z3, v3⟩)⟩ (.cons ⟨rfl, t4, rfl, (fun H => .inr ⟨o4, i4, n4, l4, c4, d4, z4, v4⟩)⟩ (.cons ⟨rfl, t5, rfl, (fun H => .inr ⟨o5, i5, n5, l5, c5, d5, z5, v5⟩)⟩ (.cons ⟨rfl, t6, rfl, (fun H => .inr ⟨o6, i6, n6, l6, c6, d6, z6, v6⟩)⟩ (.cons ⟨rfl, t7, rfl, (fun H => .inr ⟨o7, i7, n7, l7, c7, d7, z7, v7⟩)⟩ (.cons ⟨rfl, t8, rfl, (fun H => .inr ⟨o8, i8, n8, l8, c8, d8, z8, v8⟩)⟩ (.cons ⟨rfl, t9, rfl, (fun H => .inr ⟨o9, i9, n9, l9, c9, d9, z9, v9⟩)⟩ (.cons ⟨rfl, t10, rfl, (fun H => .inr ⟨o10, i10, n10, l10, c10, d10, z10, v10⟩)⟩ (.cons ⟨rfl, t11, rfl, (fun H => .inr ⟨o11, i11, n11, l11, c11, d11, z11, v11⟩)⟩ (.cons ⟨rfl, t12, rfl, (fun H => .inr ⟨o12, i12, n12, l12, c12, d12, z12, v12⟩)⟩ (.cons ⟨rfl, t13, rfl, (fun H => .inr ⟨o13, i13, n13, l13, c13, d13, z13, v13⟩)⟩ (.cons ⟨rfl, t14, rfl, (fun H => .inr ⟨o14, i14, n14, l14, c14, d14, z14, v14⟩)⟩ (.cons ⟨rfl, t15, rfl, (fun H => .inr ⟨o15, i15, n15, l15, c15, d15, z15, v15⟩)⟩ (.cons ⟨rfl, t16, rfl, (fun H => .inr ⟨o16, i16, n16, l16, c16, d16, z16, v16⟩)⟩ (.cons ⟨rfl, t17, rfl, (fun H => .inr ⟨o17, i17, n17, l17, c17, d17, z17, v17⟩)⟩ (.cons ⟨rfl, t18, rfl, (fun H => .inr ⟨o18, i18, n18, l18, c18, d18, z18, v18⟩)⟩ (.nil)))))))))))))))))))⟩
end Tm
set_option Elab.async false
set_option linter.all false
set_option maxRecDepth 100000
set_option maxHeartbeats 0
set_option pp.maxSteps 60
set_option pp.deepTerms false
open PySem L2 Tm
theorem PySem.Challenge.cw_tagmachine_k19_texts_refused_holds : PySem.Challenge.rw_tagmachine_k19_texts_refused.Holds :=
  head (by
    k_fill
    refine L2.walk_ofT (l := PySem.Challenge.rw_tagmachine_k19_texts_refused) (n := 63) (k := 9) (x := "_law_script") (sp := spLaw 324) (ts := [324]) rfl (by decide) rfl ⟨rfl, by decide, by decide⟩ (fun w h Y => PySem.W.km_in_of Y) (fun w h Y => PySem.W.km_tabs_of Y) ?C ?L ?F ?S
    case C =>
      intro w T hT
      cases List.mem_singleton.mp hT
      first | exact ⟨325, rfl⟩ | exact ⟨323, rfl⟩ | exact ⟨326, rfl⟩ | exact ⟨322, rfl⟩ | exact ⟨327, rfl⟩ | exact ⟨321, rfl⟩ | exact ⟨328, rfl⟩ | exact ⟨320, rfl⟩ | exact ⟨329, rfl⟩ | exact ⟨319, rfl⟩ | exact ⟨330, rfl⟩ | exact ⟨318, rfl⟩ | exact ⟨331, rfl⟩ | exact ⟨332, rfl⟩
    case L =>
      intro w T hT
      cases List.mem_singleton.mp hT
      kernel_rfl
    case F =>
      intro w mg fa h KX G hmg
      obtain ⟨f_is_whole, fd_is_whole, a_is_whole, F_is_whole⟩ : ∃ f fd, PySem.W.nsIn (L2.KOf KX) mainGlobals "is_whole" = some (some (.ref f)) ∧ Fun (L2.KOf KX) "is_whole" "is_whole" s_is_whole f fd := by
        dsimp only [L2.KOf]
        refine' fn_mk ?a ?l ?c ?k
        (case a => k_is)
        (case l => k_is)
        (case c => k_is)
        (case k => k_is)
      obtain ⟨f_is_number, fd_is_number, a_is_number, F_is_number⟩ : ∃ f fd, PySem.W.nsIn (L2.KOf KX) mainGlobals "is_number" = some (some (.ref f)) ∧ Fun (L2.KOf KX) "is_number" "is_number" s_is_number f fd := by
        dsimp only [L2.KOf]
        refine' fn_mk ?a ?l ?c ?k
        (case a => k_is)
        (case l => k_is)
        (case c => k_is)
        (case k => k_is)
      obtain ⟨f_common_rights, fd_common_rights, a_common_rights, F_common_rights⟩ : ∃ f fd, PySem.W.nsIn (L2.KOf KX) mainGlobals "common_rights" = some (some (.ref f)) ∧ Fun (L2.KOf KX) "common_rights" "common_rights" s_common_rights f fd := by
        dsimp only [L2.KOf]
        refine' fn_mk ?a ?l ?c ?k
        (case a => k_is)
        (case l => k_is)
        (case c => k_is)
        (case k => k_is)
      obtain ⟨f_is_rights, fd_is_rights, a_is_rights, F_is_rights⟩ : ∃ f fd, PySem.W.nsIn (L2.KOf KX) mainGlobals "is_rights" = some (some (.ref f)) ∧ Fun (L2.KOf KX) "is_rights" "is_rights" s_is_rights f fd := by
        dsimp only [L2.KOf]
        refine' fn_mk ?a ?l ?c ?k
        (case a => k_is)
        (case l => k_is)
        (case c => k_is)
        (case k => k_is)
      obtain ⟨f_is_value, fd_is_value, a_is_value, F_is_value⟩ : ∃ f fd, PySem.W.nsIn (L2.KOf KX) mainGlobals "is_value" = some (some (.ref f)) ∧ Fun (L2.KOf KX) "is_value" "is_value" s_is_value f fd := by
        dsimp only [L2.KOf]
        refine' fn_mk ?a ?l ?c ?k
        (case a => k_is)
        (case l => k_is)
        (case c => k_is)
        (case k => k_is)
      obtain ⟨f_is_row, fd_is_row, a_is_row, F_is_row⟩ : ∃ f fd, PySem.W.nsIn (L2.KOf KX) mainGlobals "is_row" = some (some (.ref f)) ∧ Fun (L2.KOf KX) "is_row" "is_row" s_is_row f fd := by
        dsimp only [L2.KOf]
        refine' fn_mk ?a ?l ?c ?k
        (case a => k_is)
        (case l => k_is)
        (case c => k_is)
        (case k => k_is)
      obtain ⟨f_first_wrong, fd_first_wrong, a_first_wrong, F_first_wrong⟩ : ∃ f fd, PySem.W.nsIn (L2.KOf KX) mainGlobals "first_wrong" = some (some (.ref f)) ∧ Fun (L2.KOf KX) "first_wrong" "first_wrong" s_first_wrong f fd := by
        dsimp only [L2.KOf]
        refine' fn_mk ?a ?l ?c ?k
        (case a => k_is)
        (case l => k_is)
        (case c => k_is)
        (case k => k_is)
      obtain ⟨f_check_program, fd_check_program, a_check_program, F_check_program⟩ : ∃ f fd, PySem.W.nsIn (L2.KOf KX) mainGlobals "check_program" = some (some (.ref f)) ∧ Fun (L2.KOf KX) "check_program" "check_program" s_check_program f fd := by
        dsimp only [L2.KOf]
        refine' fn_mk ?a ?l ?c ?k
        (case a => k_is)
        (case l => k_is)
        (case c => k_is)
        (case k => k_is)
      obtain ⟨f_written_value, fd_written_value, a_written_value, F_written_value⟩ : ∃ f fd, PySem.W.nsIn (L2.KOf KX) mainGlobals "written_value" = some (some (.ref f)) ∧ Fun (L2.KOf KX) "written_value" "written_value" s_written_value f fd := by
        dsimp only [L2.KOf]
        refine' fn_mk ?a ?l ?c ?k
        (case a => k_is)
        (case l => k_is)
        (case c => k_is)
        (case k => k_is)
      obtain ⟨f_written_row, fd_written_row, a_written_row, F_written_row⟩ : ∃ f fd, PySem.W.nsIn (L2.KOf KX) mainGlobals "written_row" = some (some (.ref f)) ∧ Fun (L2.KOf KX) "written_row" "written_row" s_written_row f fd := by
        dsimp only [L2.KOf]
        refine' fn_mk ?a ?l ?c ?k
        (case a => k_is)
        (case l => k_is)
        (case c => k_is)
        (case k => k_is)
      obtain ⟨f_written, fd_written, a_written, F_written⟩ : ∃ f fd, PySem.W.nsIn (L2.KOf KX) mainGlobals "written" = some (some (.ref f)) ∧ Fun (L2.KOf KX) "written" "written" s_written f fd := by
        dsimp only [L2.KOf]
        refine' fn_mk ?a ?l ?c ?k
        (case a => k_is)
        (case l => k_is)
        (case c => k_is)
        (case k => k_is)
      obtain ⟨f_read_number, fd_read_number, a_read_number, F_read_number⟩ : ∃ f fd, PySem.W.nsIn (L2.KOf KX) mainGlobals "read_number" = some (some (.ref f)) ∧ Fun (L2.KOf KX) "read_number" "read_number" s_read_number f fd := by
        dsimp only [L2.KOf]
        refine' fn_mk ?a ?l ?c ?k
        (case a => k_is)
        (case l => k_is)
        (case c => k_is)
        (case k => k_is)
      obtain ⟨f_read_rights, fd_read_rights, a_read_rights, F_read_rights⟩ : ∃ f fd, PySem.W.nsIn (L2.KOf KX) mainGlobals "read_rights" = some (some (.ref f)) ∧ Fun (L2.KOf KX) "read_rights" "read_rights" s_read_rights f fd := by
        dsimp only [L2.KOf]
        refine' fn_mk ?a ?l ?c ?k
        (case a => k_is)
        (case l => k_is)
        (case c => k_is)
        (case k => k_is)
      obtain ⟨f_read_value, fd_read_value, a_read_value, F_read_value⟩ : ∃ f fd, PySem.W.nsIn (L2.KOf KX) mainGlobals "read_value" = some (some (.ref f)) ∧ Fun (L2.KOf KX) "read_value" "read_value" s_read_value f fd := by
        dsimp only [L2.KOf]
        refine' fn_mk ?a ?l ?c ?k
        (case a => k_is)
        (case l => k_is)
        (case c => k_is)
        (case k => k_is)
      obtain ⟨f_read_row, fd_read_row, a_read_row, F_read_row⟩ : ∃ f fd, PySem.W.nsIn (L2.KOf KX) mainGlobals "read_row" = some (some (.ref f)) ∧ Fun (L2.KOf KX) "read_row" "read_row" s_read_row f fd := by
        dsimp only [L2.KOf]
        refine' fn_mk ?a ?l ?c ?k
        (case a => k_is)
        (case l => k_is)
        (case c => k_is)
        (case k => k_is)
      obtain ⟨f_read, fd_read, a_read, F_read⟩ : ∃ f fd, PySem.W.nsIn (L2.KOf KX) mainGlobals "read" = some (some (.ref f)) ∧ Fun (L2.KOf KX) "read" "read" s_read f fd := by
        dsimp only [L2.KOf]
        refine' fn_mk ?a ?l ?c ?k
        (case a => k_is)
        (case l => k_is)
        (case c => k_is)
        (case k => k_is)
      obtain ⟨f_law_taken, fd_law_taken, a_law_taken, F_law_taken⟩ : ∃ f fd, PySem.W.nsIn (L2.KOf KX) mainGlobals "_law_taken" = some (some (.ref f)) ∧ Fun (L2.KOf KX) "_law_taken" "_law_taken" s_law_taken f fd := by
        dsimp only [L2.KOf]
        refine' fn_mk ?a ?l ?c ?k
        (case a => k_is)
        (case l => k_is)
        (case c => k_is)
        (case k => k_is)
      obtain ⟨f_law_alike, fd_law_alike, a_law_alike, F_law_alike⟩ : ∃ f fd, PySem.W.nsIn (L2.KOf KX) mainGlobals "_law_alike" = some (some (.ref f)) ∧ Fun (L2.KOf KX) "_law_alike" "_law_alike" s_law_alike f fd := by
        dsimp only [L2.KOf]
        refine' fn_mk ?a ?l ?c ?k
        (case a => k_is)
        (case l => k_is)
        (case c => k_is)
        (case k => k_is)
      obtain ⟨f_law_word, fd_law_word, a_law_word, F_law_word⟩ : ∃ f fd, PySem.W.nsIn (L2.KOf KX) mainGlobals "_law_word" = some (some (.ref f)) ∧ Fun (L2.KOf KX) "_law_word" "_law_word" s_law_word f fd := by
        dsimp only [L2.KOf]
        refine' fn_mk ?a ?l ?c ?k
        (case a => k_is)
        (case l => k_is)
        (case c => k_is)
        (case k => k_is)
      obtain ⟨f_law_number, fd_law_number, a_law_number, F_law_number⟩ : ∃ f fd, PySem.W.nsIn (L2.KOf KX) mainGlobals "_law_number" = some (some (.ref f)) ∧ Fun (L2.KOf KX) "_law_number" "_law_number" s_law_number f fd := by
        dsimp only [L2.KOf]
        refine' fn_mk ?a ?l ?c ?k
        (case a => k_is)
        (case l => k_is)
        (case c => k_is)
        (case k => k_is)
      obtain ⟨f_law_rights, fd_law_rights, a_law_rights, F_law_rights⟩ : ∃ f fd, PySem.W.nsIn (L2.KOf KX) mainGlobals "_law_rights" = some (some (.ref f)) ∧ Fun (L2.KOf KX) "_law_rights" "_law_rights" s_law_rights f fd := by
        dsimp only [L2.KOf]
        refine' fn_mk ?a ?l ?c ?k
        (case a => k_is)
        (case l => k_is)
        (case c => k_is)
        (case k => k_is)
      obtain ⟨f_law_row, fd_law_row, a_law_row, F_law_row⟩ : ∃ f fd, PySem.W.nsIn (L2.KOf KX) mainGlobals "_law_row" = some (some (.ref f)) ∧ Fun (L2.KOf KX) "_law_row" "_law_row" s_law_row f fd := by
        dsimp only [L2.KOf]
        refine' fn_mk ?a ?l ?c ?k
        (case a => k_is)
        (case l => k_is)
        (case c => k_is)
        (case k => k_is)
      obtain ⟨f_law_program, fd_law_program, a_law_program, F_law_program⟩ : ∃ f fd, PySem.W.nsIn (L2.KOf KX) mainGlobals "_law_program" = some (some (.ref f)) ∧ Fun (L2.KOf KX) "_law_program" "_law_program" s_law_program f fd := by
        dsimp only [L2.KOf]
        refine' fn_mk ?a ?l ?c ?k
        (case a => k_is)
        (case l => k_is)
        (case c => k_is)
        (case k => k_is)
      obtain ⟨f_law_forms, fd_law_forms, a_law_forms, F_law_forms⟩ : ∃ f fd, PySem.W.nsIn (L2.KOf KX) mainGlobals "_law_forms" = some (some (.ref f)) ∧ Fun (L2.KOf KX) "_law_forms" "_law_forms" s_law_forms f fd := by
        dsimp only [L2.KOf]
        refine' fn_mk ?a ?l ?c ?k
        (case a => k_is)
        (case l => k_is)
        (case c => k_is)
        (case k => k_is)
      obtain ⟨f_law_part, fd_law_part, a_law_part, F_law_part⟩ : ∃ f fd, PySem.W.nsIn (L2.KOf KX) mainGlobals "_law_part" = some (some (.ref f)) ∧ Fun (L2.KOf KX) "_law_part" "_law_part" s_law_part f fd := by
        dsimp only [L2.KOf]
        refine' fn_mk ?a ?l ?c ?k
        (case a => k_is)
        (case l => k_is)
        (case c => k_is)
        (case k => k_is)
      obtain ⟨f_law_line, fd_law_line, a_law_line, F_law_line⟩ : ∃ f fd, PySem.W.nsIn (L2.KOf KX) mainGlobals "_law_line" = some (some (.ref f)) ∧ Fun (L2.KOf KX) "_law_line" "_law_line" s_law_line f fd := by
        dsimp only [L2.KOf]
        refine' fn_mk ?a ?l ?c ?k
        (case a => k_is)
        (case l => k_is)
        (case c => k_is)
        (case k => k_is)
      obtain ⟨f_law_spoilt, fd_law_spoilt, a_law_spoilt, F_law_spoilt⟩ : ∃ f fd, PySem.W.nsIn (L2.KOf KX) mainGlobals "_law_spoilt" = some (some (.ref f)) ∧ Fun (L2.KOf KX) "_law_spoilt" "_law_spoilt" s_law_spoilt f fd := by
        dsimp only [L2.KOf]
        refine' fn_mk ?a ?l ?c ?k
        (case a => k_is)
        (case l => k_is)
        (case c => k_is)
        (case k => k_is)
      obtain ⟨f_law, fd_law, a_law, F_law, cd_law, hcode_law, hcd_law⟩ : ∃ f fd, PySem.W.nsIn (L2.KOf KX) mainGlobals "law" = some (some (.ref f)) ∧ Fun (L2.KOf KX) "law" "law" s_law f fd ∧ ∃ c, fd.code = .ref c ∧ PySem.W.codeHdIn (L2.KOf KX) c 324 = true := by
        dsimp only [L2.KOf]
        refine' fnC_mk ?a ?l ?c ?k ?h
        (case a => k_is)
        (case l => k_is)
        (case c => k_is)
        (case k => k_is)
        (case h => kernel_rfl)
      have b_len : PySem.W.nsIn (L2.KOf KX) mainGlobals "len" = some none := by
        dsimp only [L2.KOf]
        k_is
      have b_range : PySem.W.nsIn (L2.KOf KX) mainGlobals "range" = some none := by
        dsimp only [L2.KOf]
        k_is
      have b_isinstance : PySem.W.nsIn (L2.KOf KX) mainGlobals "isinstance" = some none := by
        dsimp only [L2.KOf]
        k_is
      have b_int : PySem.W.nsIn (L2.KOf KX) mainGlobals "int" = some none := by
        dsimp only [L2.KOf]
        k_is
      have b_bool : PySem.W.nsIn (L2.KOf KX) mainGlobals "bool" = some none := by
        dsimp only [L2.KOf]
        k_is
      have b_str : PySem.W.nsIn (L2.KOf KX) mainGlobals "str" = some none := by
        dsimp only [L2.KOf]
        k_is
      have b_tuple : PySem.W.nsIn (L2.KOf KX) mainGlobals "tuple" = some none := by
        dsimp only [L2.KOf]
        k_is
      have b_list : PySem.W.nsIn (L2.KOf KX) mainGlobals "list" = some none := by
        dsimp only [L2.KOf]
        k_is
      have b_dict : PySem.W.nsIn (L2.KOf KX) mainGlobals "dict" = some none := by
        dsimp only [L2.KOf]
        k_is
      have b_min : PySem.W.nsIn (L2.KOf KX) mainGlobals "min" = some none := by
        dsimp only [L2.KOf]
        k_is
      have b_max : PySem.W.nsIn (L2.KOf KX) mainGlobals "max" = some none := by
        dsimp only [L2.KOf]
        k_is
      have b_all : PySem.W.nsIn (L2.KOf KX) mainGlobals "all" = some none := by
        dsimp only [L2.KOf]
        k_is
      have b_any : PySem.W.nsIn (L2.KOf KX) mainGlobals "any" = some none := by
        dsimp only [L2.KOf]
        k_is
      have b_enumerate : PySem.W.nsIn (L2.KOf KX) mainGlobals "enumerate" = some none := by
        dsimp only [L2.KOf]
        k_is
      have b_zip : PySem.W.nsIn (L2.KOf KX) mainGlobals "zip" = some none := by
        dsimp only [L2.KOf]
        k_is
      have b_sorted : PySem.W.nsIn (L2.KOf KX) mainGlobals "sorted" = some none := by
        dsimp only [L2.KOf]
        k_is
      have b_super : PySem.W.nsIn (L2.KOf KX) mainGlobals "super" = some none := by
        dsimp only [L2.KOf]
        k_is
      obtain ⟨t_LEAST, c_LEAST⟩ : ∃ t, PySem.W.nsIn (L2.KOf KX) mainGlobals "LEAST" = some (some (.int (-10000) t)) := by
        dsimp only [L2.KOf]
        refine' ci_mk ?a
        (case a => k_is)
      obtain ⟨t_MOST, c_MOST⟩ : ∃ t, PySem.W.nsIn (L2.KOf KX) mainGlobals "MOST" = some (some (.int 9999 t)) := by
        dsimp only [L2.KOf]
        refine' ci_mk ?a
        (case a => k_is)
      obtain ⟨t_RIGHTS, c_RIGHTS⟩ : ∃ t, PySem.W.nsIn (L2.KOf KX) mainGlobals "RIGHTS" = some (some (.str "ghls" t)) := by
        dsimp only [L2.KOf]
        refine' cs_mk ?a
        (case a => k_is)
      obtain ⟨t_MOST_ROWS, c_MOST_ROWS⟩ : ∃ t, PySem.W.nsIn (L2.KOf KX) mainGlobals "MOST_ROWS" = some (some (.int 60 t)) := by
        dsimp only [L2.KOf]
        refine' ci_mk ?a
        (case a => k_is)
      obtain ⟨t_BOXES, c_BOXES⟩ : ∃ t, PySem.W.nsIn (L2.KOf KX) mainGlobals "BOXES" = some (some (.int 8 t)) := by
        dsimp only [L2.KOf]
        refine' ci_mk ?a
        (case a => k_is)
      obtain ⟨t_FAR, c_FAR⟩ : ∃ t, PySem.W.nsIn (L2.KOf KX) mainGlobals "FAR" = some (some (.int 63 t)) := by
        dsimp only [L2.KOf]
        refine' ci_mk ?a
        (case a => k_is)
      obtain ⟨t_FIGURES, c_FIGURES⟩ : ∃ t, PySem.W.nsIn (L2.KOf KX) mainGlobals "FIGURES" = some (some (.str "0123456789" t)) := by
        dsimp only [L2.KOf]
        refine' cs_mk ?a
        (case a => k_is)
      obtain ⟨t_MOST_FIGURES, c_MOST_FIGURES⟩ : ∃ t, PySem.W.nsIn (L2.KOf KX) mainGlobals "MOST_FIGURES" = some (some (.int 5 t)) := by
        dsimp only [L2.KOf]
        refine' ci_mk ?a
        (case a => k_is)
      obtain ⟨t_NO_RIGHTS, c_NO_RIGHTS⟩ : ∃ t, PySem.W.nsIn (L2.KOf KX) mainGlobals "NO_RIGHTS" = some (some (.str "-" t)) := by
        dsimp only [L2.KOf]
        refine' cs_mk ?a
        (case a => k_is)
      obtain ⟨sa_SHAPES, n_SHAPES, kvs_SHAPES, D_SHAPES, kv_SHAPES⟩ : ∃ sa, PySem.W.nsIn (L2.KOf KX) mainGlobals "SHAPES" = some (some (.ref sa)) ∧ ∃ kvs, KDict w (L2.KOf KX) sa kvs ∧ ShapesKV (L2.KOf KX) kvs := by
        dsimp only [L2.KOf]
        refine' shapes_mk ?a ?l ?x ?d ?e ?nd ?ns ?l0 ?c0 ?d0 ?z0 ?v0 ?l1 ?c1 ?d1 ?z1 ?v1 ?l2 ?c2 ?d2 ?z2 ?v2 ?l3 ?c3 ?d3 ?z3 ?v3 ?l4 ?c4 ?d4 ?z4 ?v4 ?l5 ?c5 ?d5 ?z5 ?v5 ?l6 ?c6 ?d6 ?z6 ?v6 ?l7 ?c7 ?d7 ?z7 ?v7 ?l8 ?c8 ?d8 ?z8 ?v8 ?l9 ?c9 ?d9 ?z9 ?v9 ?l10 ?c10 ?d10 ?z10 ?v10 ?l11 ?c11 ?d11 ?z11 ?v11 ?l12 ?c12 ?d12 ?z12 ?v12 ?l13 ?c13 ?d13 ?z13 ?v13 ?l14 ?c14 ?d14 ?z14 ?v14 ?l15 ?c15 ?d15 ?z15 ?v15 ?l16 ?c16 ?d16 ?z16 ?v16 ?l17 ?c17 ?d17 ?z17 ?v17 ?l18 ?c18 ?d18 ?z18 ?v18
        (case a => k_is)
        (case l => k_is)
        (case x => exact ⟨rfl, rfl, rfl⟩)
        (case d => exact rfl)
        (case e => exact .cons rfl (.cons rfl (.cons rfl (.cons rfl (.cons rfl (.cons rfl (.cons rfl (.cons rfl (.cons rfl (.cons rfl (.cons rfl (.cons rfl (.cons rfl (.cons rfl (.cons rfl (.cons rfl (.cons rfl (.cons rfl (.cons rfl (.nil))))))))))))))))))))
        (case nd => decide +kernel)
        (case ns => decide)
        (case l0 => k_is)
        (case c0 => exact rfl)
        (case d0 => exact rfl)
        (case z0 => decide)
        (case v0 => exact .cons ⟨_, rfl⟩ (.cons ⟨_, rfl⟩ (.nil)))
        (case l1 => k_is)
        (case c1 => exact rfl)
        (case d1 => exact rfl)
        (case z1 => decide)
        (case v1 => exact .cons ⟨_, rfl⟩ (.cons ⟨_, rfl⟩ (.nil)))
        (case l2 => k_is)
        (case c2 => exact rfl)
        (case d2 => exact rfl)
        (case z2 => decide)
        (case v2 => exact .cons ⟨_, rfl⟩ (.cons ⟨_, rfl⟩ (.cons ⟨_, rfl⟩ (.nil))))
        (case l3 => k_is)
        (case c3 => exact rfl)
        (case d3 => exact rfl)
        (case z3 => decide)
        (case v3 => exact .cons ⟨_, rfl⟩ (.cons ⟨_, rfl⟩ (.cons ⟨_, rfl⟩ (.nil))))
        (case l4 => k_is)
        (case c4 => exact rfl)
        (case d4 => exact rfl)
        (case z4 => decide)
        (case v4 => exact .cons ⟨_, rfl⟩ (.cons ⟨_, rfl⟩ (.cons ⟨_, rfl⟩ (.nil))))
        (case l5 => k_is)
        (case c5 => exact rfl)
        (case d5 => exact rfl)
        (case z5 => decide)
        (case v5 => exact .cons ⟨_, rfl⟩ (.cons ⟨_, rfl⟩ (.cons ⟨_, rfl⟩ (.nil))))
        (case l6 => k_is)
        (case c6 => exact rfl)
        (case d6 => exact rfl)
        (case z6 => decide)
        (case v6 => exact .cons ⟨_, rfl⟩ (.cons ⟨_, rfl⟩ (.nil)))
        (case l7 => k_is)
        (case c7 => exact rfl)
        (case d7 => exact rfl)
        (case z7 => decide)
        (case v7 => exact .cons ⟨_, rfl⟩ (.cons ⟨_, rfl⟩ (.cons ⟨_, rfl⟩ (.nil))))
        (case l8 => k_is)
        (case c8 => exact rfl)
        (case d8 => exact rfl)
        (case z8 => decide)
        (case v8 => exact .cons ⟨_, rfl⟩ (.cons ⟨_, rfl⟩ (.cons ⟨_, rfl⟩ (.nil))))
        (case l9 => k_is)
        (case c9 => exact rfl)
        (case d9 => exact rfl)
        (case z9 => decide)
        (case v9 => exact .cons ⟨_, rfl⟩ (.cons ⟨_, rfl⟩ (.cons ⟨_, rfl⟩ (.nil))))
        (case l10 => k_is)
        (case c10 => exact rfl)
        (case d10 => exact rfl)
        (case z10 => decide)
        (case v10 => exact .cons ⟨_, rfl⟩ (.cons ⟨_, rfl⟩ (.cons ⟨_, rfl⟩ (.nil))))
        (case l11 => k_is)
        (case c11 => exact rfl)
        (case d11 => exact rfl)
        (case z11 => decide)
        (case v11 => exact .cons ⟨_, rfl⟩ (.cons ⟨_, rfl⟩ (.cons ⟨_, rfl⟩ (.nil))))
        (case l12 => k_is)
        (case c12 => exact rfl)
        (case d12 => exact rfl)
        (case z12 => decide)
        (case v12 => exact .cons ⟨_, rfl⟩ (.nil))
        (case l13 => k_is)
        (case c13 => exact rfl)
        (case d13 => exact rfl)
        (case z13 => decide)
        (case v13 => exact .cons ⟨_, rfl⟩ (.nil))
        (case l14 => k_is)
        (case c14 => exact rfl)
        (case d14 => exact rfl)
        (case z14 => decide)
        (case v14 => exact .cons ⟨_, rfl⟩ (.nil))
        (case l15 => k_is)
        (case c15 => exact rfl)
        (case d15 => exact rfl)
        (case z15 => decide)
        (case v15 => exact .cons ⟨_, rfl⟩ (.nil))
        (case l16 => k_is)
        (case c16 => exact rfl)
        (case d16 => exact rfl)
        (case z16 => decide)
        (case v16 => exact .cons ⟨_, rfl⟩ (.nil))
        (case l17 => k_is)
        (case c17 => exact rfl)
        (case d17 => exact rfl)
        (case z17 => decide)
        (case v17 => exact .cons ⟨_, rfl⟩ (.cons ⟨_, rfl⟩ (.nil)))
        (case l18 => k_is)
        (case c18 => exact rfl)
        (case d18 => exact rfl)
        (case z18 => decide)
        (case v18 => exact .nil)
      obtain ⟨c1, c2, c3, c4, c5, c6, c7, CT, n_BadProgram, n_BadWord, n_BadRooms, n_BadFuel, n_BadCell, n_Over, n_BadText, KM_, KK_, ⟨fI_text, cc_text, cda_text, fd_text, F_xtext, SE_text, OI_text, XS_text, xn_text, xt_text, xk_text⟩⟩ : ∃ c1 c2 c3 c4 c5 c6 c7 CT, PySem.W.nsIn (L2.KOf KX) mainGlobals "BadProgram" = some (some (.ref c1)) ∧ PySem.W.nsIn (L2.KOf KX) mainGlobals "BadWord" = some (some (.ref c2)) ∧ PySem.W.nsIn (L2.KOf KX) mainGlobals "BadRooms" = some (some (.ref c3)) ∧ PySem.W.nsIn (L2.KOf KX) mainGlobals "BadFuel" = some (some (.ref c4)) ∧ PySem.W.nsIn (L2.KOf KX) mainGlobals "BadCell" = some (some (.ref c5)) ∧ PySem.W.nsIn (L2.KOf KX) mainGlobals "Over" = some (some (.ref c6)) ∧ PySem.W.nsIn (L2.KOf KX) mainGlobals "BadText" = some (some (.ref c7)) ∧ (∀ mg : Str → Option Value, (∀ {x : Str} {o : Value}, PySem.W.nsIn (L2.KOf KX) mainGlobals x = some (some o) → mg x = some o) → (∀ {x : Str}, PySem.W.nsIn (L2.KOf KX) mainGlobals x = some none → mg x = none) → RkM mg CT (csOf c1 c2 c3 c4 c5 c6 c7)) ∧ (∀ kd, usT kd = true → RkK (L2.KOf KX) CT (csOf c1 c2 c3 c4 c5 c6 c7) kd) ∧ (∃ f cc cda fd, FunS (L2.KOf KX) "__init__" "BadText.__init__" s_BadText___init__ f cc cda fd ∧ (∀ mg : Str → Option Value, mg "super" = none → SupE PySem.Challenge.pw_tagmachine_k19_texts_refused (L2.KOf KX) mg c7 f cc cda) ∧ (∀ h : Heap, PySem.W.Frag.In (L2.KOf KX) h → OwnI c7 f bmVE "ValueError.__new__" h) ∧ XSt (L2.KOf KX) c7 ∧ PySem.W.findIn (L2.KOf KX) (.ref c7) "line" = some none ∧ PySem.W.typeIn (L2.KOf KX) (.ref f) = some (.type "function") ∧ PySem.W.keepIn (L2.KOf KX) (.ref c7) = true) := by
        dsimp only [L2.KOf]
        refine' exc19_mk (P := PySem.Challenge.pw_tagmachine_k19_texts_refused) ?m_program ?m_word ?m_rooms ?m_fuel ?m_cell ?m_over ?m_text ?tag ?ve ?xn ?xt ?no ?top ?hit_text ?g_text ?g2_text ?b_text ?a_text ?o_text ?c_text ?k_text_program ?k_text_word ?k_text_rooms ?k_text_fuel ?k_text_cell ?k_text_over ?k_text_text ?vy_text ?hd_text ?n_text ?kp_text ?l_text ?t_text ?ok_text ?i_text ?lf_text ?cI_text ?kI_text ?tI_text ?co_text ?vf_text ?fi_text ?ce_text ?ss_text ?sv_text ?su_text ?sa_text ?ov_text
        (case m_program => k_is)
        (case m_word => k_is)
        (case m_rooms => k_is)
        (case m_fuel => k_is)
        (case m_cell => k_is)
        (case m_over => k_is)
        (case m_text => k_is)
        (case tag => k_is)
        (case ve => k_is)
        (case xn => k_is)
        (case xt => k_is)
        (case no => k_is)
        (case top => kernel_rfl)
        (case hit_text => kts_exm)
        (case g_text => k_is)
        (case g2_text => k_is)
        (case b_text => k_is)
        (case a_text => k_is)
        (case o_text => k_is)
        (case c_text => k_is)
        (case k_text_program => kit_is)
        (case k_text_word => kit_is)
        (case k_text_rooms => kit_is)
        (case k_text_fuel => kit_is)
        (case k_text_cell => kit_is)
        (case k_text_over => kit_is)
        (case k_text_text => kit_is)
        (case vy_text => kit_is)
        (case hd_text => k_is)
        (case n_text => k_is)
        (case kp_text => k_is)
        (case l_text => k_is)
        (case t_text => kernel_rfl)
        (case ok_text => kernel_rfl)
        (case i_text => k_is)
        (case lf_text => k_is)
        (case cI_text => k_is)
        (case kI_text => k_is)
        (case tI_text => k_is)
        (case co_text => k_is)
        (case vf_text => exact rfl)
        (case fi_text => first | exact rfl | decide +kernel)
        (case ce_text => k_is)
        (case ss_text => k_is)
        (case sv_text => k_is)
        (case su_text => ks_is)
        (case sa_text => k_is)
        (case ov_text => kernel_rfl)
      have e0 := hmg.symm.trans (PySem.W.mg_of KX G a_law)
      cases e0
      clear hmg
      refine' ⟨fd_law, ?b, fun base kb nb hB => ?c⟩
      (case b => exact binds1 F_law (fun _ _ _ _ _ _ us hl => match us, hl with | [_], _ => rfl))
      have M : ∀ {x : Str} {o : Value}, PySem.W.nsIn (L2.KOf KX) mainGlobals x = some (some o) → mg x = some o := fun e => PySem.W.mg_of KX G e
      have M0 : ∀ {x : Str}, PySem.W.nsIn (L2.KOf KX) mainGlobals x = some none → mg x = none := fun e => PySem.W.mg_none_of KX G e
      have T : Tx mg := ⟨M0 b_len, M0 b_range, M0 b_isinstance, M0 b_int, M0 b_bool, M0 b_str, M0 b_tuple, M0 b_list, M0 b_dict, M0 b_min, M0 b_max, M0 b_all, M0 b_any, M0 b_enumerate, M0 b_zip, M0 b_sorted⟩
      have G1 : Gw mg := ⟨⟨t_LEAST, M c_LEAST⟩, ⟨t_MOST, M c_MOST⟩, ⟨t_RIGHTS, M c_RIGHTS⟩⟩
      have G4 : Gc mg := ⟨⟨t_MOST_ROWS, M c_MOST_ROWS⟩, ⟨t_BOXES, M c_BOXES⟩, ⟨t_FAR, M c_FAR⟩⟩
      have GN : Gn mg := ⟨⟨t_FIGURES, M c_FIGURES⟩, ⟨t_MOST_FIGURES, M c_MOST_FIGURES⟩, ⟨t_NO_RIGHTS, M c_NO_RIGHTS⟩⟩
      have GW : Gnw mg := ⟨⟨t_NO_RIGHTS, M c_NO_RIGHTS⟩⟩
      have SH : ShapesAt w (L2.KOf KX) mg := ⟨sa_SHAPES, kvs_SHAPES, D_SHAPES, M n_SHAPES, kv_SHAPES⟩
      have D_is_whole := df_mk (P := PySem.Challenge.pw_tagmachine_k19_texts_refused) (w := w) (base := base) (M a_is_whole) F_is_whole (fun _ _ _ _ _ _ us hl => match us, hl with | [_, _, _], _ => rfl) (ok_is_whole F_is_whole T)
      have D_is_number := df_mk (P := PySem.Challenge.pw_tagmachine_k19_texts_refused) (w := w) (base := base) (M a_is_number) F_is_number (fun _ _ _ _ _ _ us hl => match us, hl with | [_], _ => rfl) (ok_is_number F_is_number G1 D_is_whole)
      have D_common_rights := df_mk (P := PySem.Challenge.pw_tagmachine_k19_texts_refused) (w := w) (base := base) (M a_common_rights) F_common_rights (fun _ _ _ _ _ _ us hl => match us, hl with | [_, _], _ => rfl) (ok_common F_common_rights)
      have D_is_rights := df_mk (P := PySem.Challenge.pw_tagmachine_k19_texts_refused) (w := w) (base := base) (M a_is_rights) F_is_rights (fun _ _ _ _ _ _ us hl => match us, hl with | [_], _ => rfl) (ok_is_rights F_is_rights T G1 D_common_rights)
      have D_is_value := df_mk (P := PySem.Challenge.pw_tagmachine_k19_texts_refused) (w := w) (base := base) (M a_is_value) F_is_value (fun _ _ _ _ _ _ us hl => match us, hl with | [_, _, _], _ => rfl) (ok_is_value F_is_value G4 D_is_whole D_is_number D_is_rights)
      have D_is_row := df_mk (P := PySem.Challenge.pw_tagmachine_k19_texts_refused) (w := w) (base := base) (M a_is_row) F_is_row (fun _ _ _ _ _ _ us hl => match us, hl with | [_, _], _ => rfl) (ok_is_row F_is_row T SH D_is_value)
      have D_is_row_g := df_mk (P := PySem.Challenge.pw_tagmachine_k19_texts_refused) (w := w) (base := base) (M a_is_row) F_is_row (fun _ _ _ _ _ _ us hl => match us, hl with | [_, _], _ => rfl) (ok_is_rowG F_is_row T SH D_is_value)
      have D_first_wrong := df_mk (P := PySem.Challenge.pw_tagmachine_k19_texts_refused) (w := w) (base := base) (M a_first_wrong) F_first_wrong (fun _ _ _ _ _ _ us hl => match us, hl with | [_], _ => rfl) (ok_first_wrong F_first_wrong T G4 D_is_row)
      have D_first_wrong_u := df_mk (P := PySem.Challenge.pw_tagmachine_k19_texts_refused) (w := w) (base := base) (M a_first_wrong) F_first_wrong (fun _ _ _ _ _ _ us hl => match us, hl with | [_], _ => rfl) ((ok_first_wrongO F_first_wrong T G4 D_is_row_g).orElse (ok_first_wrongG F_first_wrong T G4 D_is_row_g))
      have D_check_program := df_mk (P := PySem.Challenge.pw_tagmachine_k19_texts_refused) (w := w) (base := base) (M a_check_program) F_check_program (fun _ _ _ _ _ _ us hl => match us, hl with | [_], _ => rfl) (ok_check_program F_check_program T D_first_wrong)
      have D_written_value := df_mk (P := PySem.Challenge.pw_tagmachine_k19_texts_refused) (w := w) (base := base) (M a_written_value) F_written_value (fun _ _ _ _ _ _ us hl => match us, hl with | [_], _ => rfl) (ok_wvalue F_written_value T GW)
      have D_written_row := df_mk (P := PySem.Challenge.pw_tagmachine_k19_texts_refused) (w := w) (base := base) (M a_written_row) F_written_row (fun _ _ _ _ _ _ us hl => match us, hl with | [_], _ => rfl) (ok_wrow F_written_row D_written_value)
      have D_written := df_mk (P := PySem.Challenge.pw_tagmachine_k19_texts_refused) (w := w) (base := base) (M a_written) F_written (fun _ _ _ _ _ _ us hl => match us, hl with | [_], _ => rfl) (ok_written F_written D_check_program D_written_row)
      have D_read_number := df_mk (P := PySem.Challenge.pw_tagmachine_k19_texts_refused) (w := w) (base := base) (M a_read_number) F_read_number (fun _ _ _ _ _ _ us hl => match us, hl with | [_], _ => rfl) (ok_rnumberG F_read_number T GN)
      have D_read_rights := df_mk (P := PySem.Challenge.pw_tagmachine_k19_texts_refused) (w := w) (base := base) (M a_read_rights) F_read_rights (fun _ _ _ _ _ _ us hl => match us, hl with | [_], _ => rfl) (ok_rrightsG F_read_rights GN)
      have D_read_value := df_mk (P := PySem.Challenge.pw_tagmachine_k19_texts_refused) (w := w) (base := base) (M a_read_value) F_read_value (fun _ _ _ _ _ _ us hl => match us, hl with | [_, _], _ => rfl) (ok_rvalueG F_read_value D_read_rights D_read_number)
      have D_read_row := df_mk (P := PySem.Challenge.pw_tagmachine_k19_texts_refused) (w := w) (base := base) (M a_read_row) F_read_row (fun _ _ _ _ _ _ us hl => match us, hl with | [_], _ => rfl) (ok_rrowG F_read_row T SH D_read_value)
      have RT : RaiseK PySem.Challenge.pw_tagmachine_k19_texts_refused w (L2.KOf KX) mg base "BadText" "line" c7 := ⟨M n_BadText, xk_text, ⟨fI_text, fd_text, P_BadText___init__, OI_text base kb, ok_xBadText F_xtext (SE_text mg (M0 b_super)) (OI_text base kb) XS_text xn_text, bindsS F_xtext (fun _ _ _ _ _ _ _ us hl => match us, hl with | [_, _], _ => rfl), xt_text⟩⟩
      have DX_read := dfx_mk (P := PySem.Challenge.pw_tagmachine_k19_texts_refused) (w := w) (base := base) (M a_read) F_read (fun _ _ _ _ _ _ us hl => match us, hl with | [_], _ => rfl) (ok_readG F_read T RT D_read_row D_first_wrong_u)
      have D_read := df_mk (P := PySem.Challenge.pw_tagmachine_k19_texts_refused) (w := w) (base := base) (M a_read) F_read (fun _ _ _ _ _ _ us hl => match us, hl with | [_], _ => rfl) (ok_readO F_read T D_read_row D_first_wrong_u)
      have D_law_taken := df_mk (P := PySem.Challenge.pw_tagmachine_k19_texts_refused) (w := w) (base := base) (M a_law_taken) F_law_taken (fun _ _ _ _ _ _ us hl => match us, hl with | [_, _], _ => rfl) (ok_taken F_law_taken T)
      have D_law_alike0 := df_mk (P := PySem.Challenge.pw_tagmachine_k19_texts_refused) (w := w) (base := base) (M a_law_alike) F_law_alike (fun _ _ _ _ _ _ us hl => match us, hl with | [_, _], _ => rfl) (ok_alike (n := 0) (m := 0) F_law_alike T (fun j h => by omega))
      have D_law_alike1 := df_mk (P := PySem.Challenge.pw_tagmachine_k19_texts_refused) (w := w) (base := base) (M a_law_alike) F_law_alike (fun _ _ _ _ _ _ us hl => match us, hl with | [_, _], _ => rfl) (ok_alike (n := 1) (m := 1) F_law_alike T (fun j h => by cases h; exact D_law_alike0))
      have D_law_alike := df_mk (P := PySem.Challenge.pw_tagmachine_k19_texts_refused) (w := w) (base := base) (M a_law_alike) F_law_alike (fun _ _ _ _ _ _ us hl => match us, hl with | [_, _], _ => rfl) (ok_alike (n := 2) (m := 2) F_law_alike T (fun j h => by cases h; exact D_law_alike1))
      have D_law_number := df_mk (P := PySem.Challenge.pw_tagmachine_k19_texts_refused) (w := w) (base := base) (M a_law_number) F_law_number (fun _ _ _ _ _ _ us hl => match us, hl with | [_], _ => rfl) (ok_number F_law_number D_law_taken)
      have D_law_rights := df_mk (P := PySem.Challenge.pw_tagmachine_k19_texts_refused) (w := w) (base := base) (M a_law_rights) F_law_rights (fun _ _ _ _ _ _ us hl => match us, hl with | [_], _ => rfl) (ok_rights F_law_rights T D_law_taken)
      have D_law_row := df_mk (P := PySem.Challenge.pw_tagmachine_k19_texts_refused) (w := w) (base := base) (M a_law_row) F_law_row (fun _ _ _ _ _ _ us hl => match us, hl with | [_, _, _], _ => rfl) (ok_row F_law_row T D_law_taken D_law_number D_law_rights)
      have D_law_program := df_mk (P := PySem.Challenge.pw_tagmachine_k19_texts_refused) (w := w) (base := base) (M a_law_program) F_law_program (fun _ _ _ _ _ _ us hl => match us, hl with | [_, _], _ => rfl) (ok_lprogram F_law_program T D_law_taken D_law_row)
      have D_law_forms := df_mk (P := PySem.Challenge.pw_tagmachine_k19_texts_refused) (w := w) (base := base) (M a_law_forms) F_law_forms (fun _ _ _ _ _ _ us hl => match us, hl with | [], _ => rfl) (ok_forms F_law_forms T)
      have D_law_part := df_mk (P := PySem.Challenge.pw_tagmachine_k19_texts_refused) (w := w) (base := base) (M a_law_part) F_law_part (fun _ _ _ _ _ _ us hl => match us, hl with | [_, _, _], _ => rfl) (ok_part F_law_part T)
      have D_law_line := df_mk (P := PySem.Challenge.pw_tagmachine_k19_texts_refused) (w := w) (base := base) (M a_law_line) F_law_line (fun _ _ _ _ _ _ us hl => match us, hl with | [_, _], _ => rfl) (ok_line F_law_line T D_law_forms D_law_part)
      have D_law_spoilt := df_mk (P := PySem.Challenge.pw_tagmachine_k19_texts_refused) (w := w) (base := base) (M a_law_spoilt) F_law_spoilt (fun _ _ _ _ _ _ us hl => match us, hl with | [_, _], _ => rfl) (ok_spoilt F_law_spoilt T D_law_taken)
      exact ok_law (cs := (csOf c1 c2 c3 c4 c5 c6 c7)) F_law hcode_law hcd_law hB T F_law_word (fun clos fr ws => ok_wordC (k := 6) (cs := (csOf c1 c2 c3 c4 c5 c6 c7)) (us := usT) F_law_word T (KM_ mg M M0) KK_) (M a_law_word) (F_law_word.binds (fun _ _ _ _ _ _ us hl => match us, hl with | [_], _ => rfl)) D_law_taken D_law_program D_law_spoilt D_law_line D_read DX_read D_written D_law_alike
    case S => exact fun K H a ns hl hO hS => ⟨a, ns, rfl, frz_onlyT hO hS, hl, TblL.start (hO.tab _ (List.mem_cons_self ..)), fun _ => rfl⟩)
