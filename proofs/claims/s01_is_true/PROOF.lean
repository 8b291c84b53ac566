import PyProof.Rows.All
import Wide.All
import OpenK.AllK
import Wide.FinOn
import PyProof.EqAt
import PyProof.EqKinds
import PyProof.TupleCall
import KE.BitLaws
import Open.SpecLaws
import KE.OsHead
import KE.OsGo
import Open.Spec
import PySem.Challenge.RW_wholesays_s01_is_true
import KE.KSortTupUse
import PyProof.LongRange
section
set_option Elab.async false
set_option linter.all false
set_option maxRecDepth 100000
set_option maxHeartbeats 0
namespace WS
open PySem PySem.W PyProof.Rows
def vw : Program := { PySem.Challenge.pw_wholesays_s01_is_true with main := { PySem.Challenge.pw_wholesays_s01_is_true.main with body := PySem.Challenge.pw_wholesays_s01_is_true.main.body.tail } }
section
local macro_rules | `(tactic| o_headS $_:term) => `(tactic| assumption)
theorem x (hc : PySem.Challenge.rw_wholesays_s01_is_true.Holds) : PySem.Challenge.rw_wholesays_s01_is_true.Holds := by k_headS
end
def al : List Addr := [2, 3, 15, 16, 23, 24, 25, 26, 36, 38, 39, 41, 42, 43, 45, 46, 48, 49, 50, 52, 53, 55, 56, 57, 59, 60, 62, 63, 64, 66, 67, 69, 70, 71, 73, 74, 76, 77, 78, 80, 81, 83, 84, 85, 87, 88, 90, 91, 92, 94, 95, 97, 98, 99, 101, 102, 104, 105, 106, 108, 109, 111, 112, 113, 116, 117, 118, 120, 121, 123, 124, 125, 127, 128, 130, 131, 132, 135, 136, 137, 138, 139, 140, 141, 144, 146, 147, 149, 150, 158, 160, 161, 163, 164, 165, 166, 167, 168, 169, 179, 181, 182, 184, 185, 186, 187, 188, 189, 190, 193, 195, 196, 198, 199, 200, 202, 203, 205, 206, 207, 209, 210, 212, 213, 214, 216, 217, 219, 220, 221, 224, 225, 226, 229, 230, 231, 234, 235, 236, 239, 240, 241, 243, 244, 246, 247, 248, 250, 251, 253, 254, 255, 257, 258, 260, 261, 262, 264, 265, 267, 268, 269, 271, 272, 274, 275, 276, 278, 279, 281, 282]
theorem hk : ∀ P, al = (x.heap_1 P).map (·.1) := fun _ => by kernel_rfl
theorem left : LeftO PySem.Challenge.rw_wholesays_s01_is_true.prog vw [] (fun s => xlAt vw [] s && recOk [] s) (Hook.obs (kHook x.heap_1 al hk)) (Hook.val (kHook x.heap_1 al hk)) 4400 := fun w => by kernel_rfl
end WS
end
section
set_option Elab.async false
set_option linter.all false
set_option maxRecDepth 100000
namespace L2
open PySem PySem.Spec PyProof.Rows
abbrev Key := Sum Int Str
def keyIs : Key → Value → Bool
  | .inl k, v => Value.isInt k v
  | .inr x, v => Value.isStrOf x v
def keyH (w : World) : Key → Int
  | .inl k => hashInt k
  | .inr x => hashStr w x
theorem keyIs_shape : ∀ {k : Key} {v : Value}, keyIs k v = true → (∃ i t, k = Sum.inl i ∧ v = Value.int i t) ∨ (∃ x t, k = Sum.inr x ∧ v = Value.str x t)
  | .inl i, v, h => by
    obtain ⟨t, e⟩ := Value.isInt_shape (k := i) (v := v) h
    exact .inl ⟨i, t, rfl, e⟩
  | .inr x, v, h => by
    obtain ⟨t, e⟩ := Value.isStrOf_shape (x := x) (v := v) h
    exact .inr ⟨x, t, rfl, e⟩
theorem key_ll (a b : Int) : decide ((Sum.inl a : Key) = Sum.inl b) = (a == b) := by
  by_cases e : a = b
  · subst e; simp
  · have h : ¬ (Sum.inl a : Key) = Sum.inl b := fun q => e (Sum.inl.inj q)
    rw [decide_eq_false h]
    exact (beq_eq_false_iff_ne.mpr e).symm
theorem key_rr (a b : Str) : decide ((Sum.inr a : Key) = Sum.inr b) = decide (a = b) := by
  by_cases e : a = b
  · subst e; simp
  · have h : ¬ (Sum.inr a : Key) = Sum.inr b := fun q => e (Sum.inr.inj q)
    rw [decide_eq_false h, decide_eq_false e]
theorem key_lr (a : Int) (b : Str) : decide ((Sum.inl a : Key) = Sum.inr b) = false := decide_eq_false (fun q => nomatch q)
theorem key_rl (a : Str) (b : Int) : decide ((Sum.inr a : Key) = Sum.inl b) = false := decide_eq_false (fun q => nomatch q)
def mixKind (prog : Program) (w : World) : PySem.KeyKind prog w Key where
  is := keyIs
  hash := keyH w
  inj := fun v a b ha hb => by
    rcases keyIs_shape ha with ⟨i, t, rfl, rfl⟩ | ⟨x, t, rfl, rfl⟩
    · rcases keyIs_shape hb with ⟨j, u, rfl, e⟩ | ⟨y, u, rfl, e⟩
      · injection e with e1 _; rw [e1]
      · exact nomatch e
    · rcases keyIs_shape hb with ⟨j, u, rfl, e⟩ | ⟨y, u, rfl, e⟩
      · exact nomatch e
      · injection e with e1 _; rw [e1]
  byValue := fun k v h => by
    rcases keyIs_shape h with ⟨i, t, rfl, rfl⟩ | ⟨x, t, rfl, rfl⟩ <;> rfl
  pyHash := fun hv h => by
    rcases keyIs_shape hv with ⟨i, t, rfl, rfl⟩ | ⟨x, t, rfl, rfl⟩
    · exact wpAny_pyHash_int h
    · exact wpAny_pyHash_str h
  eqBool := fun hu hv h => by
    rcases keyIs_shape hu with ⟨i, t, rfl, rfl⟩ | ⟨x, t, rfl, rfl⟩
    · rcases keyIs_shape hv with ⟨j, u, rfl, rfl⟩ | ⟨y, u, rfl, rfl⟩
      · rw [key_ll] at h; exact wpAny_eqBool_int h
      · rw [key_lr] at h; exact SeqAt.EqAt.int_str i t y u _ _ _ _ h
    · rcases keyIs_shape hv with ⟨j, u, rfl, rfl⟩ | ⟨y, u, rfl, rfl⟩
      · rw [key_rl] at h; exact SeqAt.EqAt.str_int x t j u _ _ _ _ h
      · rw [key_rr] at h; exact wpAny_eqBool_str h
  «strs» := fun k x t v h => by
    rcases keyIs_shape h with ⟨i, u, rfl, e⟩ | ⟨y, u, rfl, e⟩
    · exact nomatch e
    · injection e with e1 _
      subst e1
      cases v <;> rfl
end L2
namespace L2
open PySem PySem.Spec PyProof.Rows
inductive V where
  | non | bl (b : Bool) | int (i : Int) | str (x : Str) | byt (b : Array UInt8) | flt (b : UInt64) | ref (a : Addr) | ty (n : String)
  deriving DecidableEq
def RelV : V → Value → Prop
  | .non, u => u = Value.none
  | .bl b, u => u = Value.bool b
  | .int i, u => ∃ t, u = Value.int i t
  | .str x, u => ∃ t, u = Value.str x t
  | .byt b, u => ∃ t, u = Value.bytes b t
  | .flt b, u => ∃ t, u = Value.float b t
  | .ref a, u => u = Value.ref a
  | .ty n, u => u = Value.type n
abbrev Vals : List V → List Value → Prop := Paired RelV
theorem Vals.length {xs : List V} {us : List Value} (r : Vals xs us) : xs.length = us.length := Paired.length r
theorem Vals.get : ∀ {xs : List V} {us : List Value} {i : Nat} {x : V}, Vals xs us → xs[i]? = some x → ∃ u, us[i]? = some u ∧ RelV x u
  | _, _, _, _, .nil, e => by simp at e
  | _, _, 0, _, .cons r _, e => by simp at e; subst e; exact ⟨_, rfl, r⟩
  | _, _, i + 1, x, .cons _ t, e => by
    obtain ⟨u, h1, h2⟩ := Vals.get (i := i) (x := x) t (by simpa using e)
    exact ⟨u, by simpa using h1, h2⟩
theorem Vals.set {x : V} {u : Value} (r : RelV x u) : ∀ {xs : List V} {us : List Value} (i : Nat), Vals xs us → Vals (xs.set i x) (us.set i u)
  | _, _, _, .nil => .nil
  | _, _, 0, .cons _ t => .cons r t
  | _, _, i + 1, .cons q t => .cons q (Vals.set r i t)
theorem Vals.append : ∀ {xs ys : List V} {us ws : List Value}, Vals xs us → Vals ys ws → Vals (xs ++ ys) (us ++ ws)
  | _, _, _, _, .nil, s => s
  | _, _, _, _, .cons r t, s => .cons r (Vals.append t s)
theorem Vals.take : ∀ {xs : List V} {us : List Value} (n : Nat), Vals xs us → Vals (xs.take n) (us.take n)
  | _, _, 0, _ => .nil
  | _, _, _ + 1, .nil => .nil
  | _, _, n + 1, .cons r t => .cons r (Vals.take n t)
theorem Vals.drop : ∀ {xs : List V} {us : List Value} (n : Nat), Vals xs us → Vals (xs.drop n) (us.drop n)
  | _, _, 0, r => r
  | _, _, _ + 1, .nil => .nil
  | _, _, n + 1, .cons _ t => Vals.drop n t
def RelO : Option V → Option Value → Prop
  | some v, some u => RelV v u
  | none, none => True
  | _, _ => False
def KV {κ : Type} : List (κ × V) → List (κ × Value) → Prop := Paired fun (p : κ × V) (q : κ × Value) => p.1 = q.1 ∧ RelV p.2 q.2
def kV : Key → V
  | .inl i => .int i
  | .inr x => .str x
inductive HO where
    | lst (xs : List V)
    | tup (xs : List V)
    | dK (kvs : List (Key × V)) | dT (kvs : List (List Key × V))
    | set (S : Int → Bool) (n : Nat)
    | ins (C dx : Addr) (fs : List (Str × V))
    | own (x : Addr)
    | xd (fs : List (Str × V))
    | met (f x : Addr)
    | rng (lo hi : Int)
    | frz (o : Obj) (u : HO)
    | tbl (ps : Array Value)
    | ext (φ : Heap → Prop)
abbrev Hp := Addr → Option HO
def upd (H : Hp) (a : Addr) (o : HO) : Hp := fun b => if b = a then some o else H b
theorem upd_same {H : Hp} {a : Addr} {o : HO} : upd H a o a = some o := by unfold upd; rw [if_pos rfl]
theorem upd_ne {H : Hp} {a b : Addr} {o : HO} (h : b ≠ a) : upd H a o b = H b := by unfold upd; rw [if_neg h]
theorem upd_upd {H : Hp} {a : Addr} {o u : HO} : upd (upd H a o) a u = upd H a u := by
  funext b; unfold upd; split <;> rfl
theorem ne_of {H : Hp} {a b : Addr} {o u : HO} (h : H a = some o) (h' : H b = some u) (d : o ≠ u) : a ≠ b := by
  intro e; subst e; rw [h] at h'; exact d (Option.some.inj h')
theorem ne_of_none {H : Hp} {a b : Addr} {o : HO} (h : H a = some o) (h' : H b = none) : a ≠ b := by
  intro e; subst e; rw [h] at h'; cases h'
section
variable (P : Program) (w : World)
def ObjOk (H : Hp) (h : Heap) (a : Addr) : HO → Prop
  | .lst xs => xs.length ≤ sizeLine ∧ ∃ (its : List Value) (n : Nat), Vals xs its ∧ h.get? a = some { cls := .type "list", data := .seq its.toArray n }
  | .tup xs => xs.length ≤ sizeLine ∧ ∃ its : List Value, Vals xs its ∧ IsTup h a its.toArray
  | .dK kvs => kvs.length ≤ sizeLine ∧ (a == sysModules) = false ∧ ∃ vs, KV kvs vs ∧ h.DictOf (mixKind P w) a vs
  | .dT kvs => kvs.length ≤ sizeLine ∧ (a == sysModules) = false ∧ ∃ xs : List (List Key × Addr × Value),
      Paired (fun (p : List Key × V) (q : List Key × Addr × Value) => p.1 = q.1 ∧ H q.2.1 = some (.tup (p.1.map kV)) ∧ RelV p.2 q.2.2) kvs xs ∧
      ∃ o es ep, h.get? a = some o ∧ o.ExactDict ∧ o.data = .dict es ep ∧ es.toList = xs.map (entryOfKey (tupleKind (mixKind P w))) ∧ (xs.map (·.1)).Nodup
  | .set S n => h.SetOf (intKind P w) a S n
  | .ins C dx fs => H dx = some (.own a) ∧ fs.length ≤ 1000 ∧ dx ≠ a ∧ h.get? a = some (PySem.W.instObj C dx) ∧
      ∃ mA, h.Ns1 dx mA ∧ (∀ f, RelO (fs.lookup f) (mA f)) ∧ PySem.Within mA (fs.map (·.1))
  | .own _ => ∃ o, h.get? a = some o
  | .xd fs => ∃ mA, h.Ns1 a mA ∧ ∀ f, RelO (fs.lookup f) (mA f)
  | .rng lo hi => ∃ t u v, h.get? a = some { cls := .type "range", data := .fields #[.int lo t, .int hi u, .int 1 v] }
  | .frz o u => h.get? a = some o ∧ ObjOk H h a u
  | .tbl ps => h.get? a = some { cls := .none, data := .fields ps }
  | .met f x => h.get? a = some (PySem.W.methodObj (.ref f) (.ref x))
  | .ext φ => φ h ∧ (∃ o, h.get? a = some o) ∧ ∀ h1 h2 : Heap, φ h1 → (∀ o, h1.get? a = some o → h2.get? a = some o) → φ h2
def HOk (H : Hp) (h : Heap) : Prop := ∀ a o, H a = some o → ObjOk P w H h a o
end
section
variable {P : Program} {w : World} {H H' : Hp} {h h' : Heap} {a : Addr} {o : HO}
theorem ObjOk.lt (x : ObjOk P w H h a o) : a < h.objs.size := by
  cases o with
  | lst xs => obtain ⟨_, _, _, _, e⟩ := x; exact Heap.lt_size e
  | tup xs => obtain ⟨_, _, _, p⟩ := x; exact p.lt
  | dK kvs => obtain ⟨_, _, _, _, o, _, _, e, _⟩ := x; exact Heap.lt_size e
  | dT kvs => obtain ⟨_, _, _, _, o, _, _, e, _⟩ := x; exact Heap.lt_size e
  | set S n => obtain ⟨o, _, _, _, e, _⟩ := x; exact Heap.lt_size e
  | ins C dx fs => obtain ⟨_, _, _, e, _⟩ := x; exact Heap.lt_size e
  | own y => obtain ⟨_, e⟩ := x; exact Heap.lt_size e
  | xd fs => obtain ⟨_, ⟨_, _, _, e, _⟩, _⟩ := x; exact Heap.lt_size e
  | rng lo hi => obtain ⟨_, _, _, e⟩ := x; exact Heap.lt_size e
  | frz ob u => obtain ⟨e, _⟩ := x; exact Heap.lt_size e
  | tbl ps => exact Heap.lt_size (show h.get? a = some _ from x)
  | met f y => exact Heap.lt_size (show h.get? a = some _ from x)
  | ext φ => obtain ⟨_, ⟨_, e⟩, _⟩ := x; exact Heap.lt_size e
theorem Paired.mapP {α β : Type} {F G : α → β → Prop} : ∀ {l₁ : List α} {l₂ : List β}, Paired F l₁ l₂ → (∀ a b, F a b → G a b) → Paired G l₁ l₂
  | _, _, .nil, _ => .nil
  | _, _, .cons r t, f => .cons (f _ _ r) (Paired.mapP t f)
theorem ObjOk.stay (x : ObjOk P w H h a o) (k : ∀ b u, (b = a ∨ H b = some (.own a)) → h.get? b = some u → h'.get? b = some u)
    (ho : ∀ b, H b = some (.own a) → H' b = some (.own a)) (ht : ∀ b xs, H b = some (.tup xs) → H' b = some (.tup xs)) : ObjOk P w H' h' a o := by
  induction o with
  | lst xs => obtain ⟨z, its, n, r, e⟩ := x; exact ⟨z, its, n, r, k _ _ (.inl rfl) e⟩
  | tup xs => obtain ⟨z, its, r, ob, e, c⟩ := x; exact ⟨z, its, r, ob, k _ _ (.inl rfl) e, c⟩
  | dK kvs => obtain ⟨z, y, vs, r, ob, es, ep, e, c⟩ := x; exact ⟨z, y, vs, r, ob, es, ep, k _ _ (.inl rfl) e, c⟩
  | dT kvs =>
    obtain ⟨z, y, xs, r, ob, es, ep, e, c⟩ := x
    exact ⟨z, y, xs, Paired.mapP r fun p q z => ⟨z.1, ht _ _ z.2.1, z.2.2⟩, ob, es, ep, k _ _ (.inl rfl) e, c⟩
  | set S n => obtain ⟨ob, es, ep, t, e, c⟩ := x; exact ⟨ob, es, ep, t, k _ _ (.inl rfl) e, c⟩
  | ins C dx fs =>
    obtain ⟨d, z, ne, e, mA, ⟨od, es, ep, e2, c⟩, r⟩ := x
    exact ⟨ho _ d, z, ne, k _ _ (.inl rfl) e, mA, ⟨od, es, ep, k _ _ (.inr d) e2, c⟩, r⟩
  | own y => obtain ⟨ob, e⟩ := x; exact ⟨ob, k _ _ (.inl rfl) e⟩
  | xd fs => obtain ⟨mA, ⟨od, es, ep, e, c⟩, r⟩ := x; exact ⟨mA, ⟨od, es, ep, k _ _ (.inl rfl) e, c⟩, r⟩
  | rng lo hi => obtain ⟨t, u, v, e⟩ := x; exact ⟨t, u, v, k _ _ (.inl rfl) e⟩
  | frz ob u ih => obtain ⟨e, q⟩ := x; exact ⟨k _ _ (.inl rfl) e, ih q⟩
  | tbl ps =>
    have e : h.get? a = some { cls := .none, data := .fields ps } := x
    show h'.get? a = some { cls := .none, data := .fields ps }
    exact k a _ (.inl rfl) e
  | met f y =>
    have e : h.get? a = some (PySem.W.methodObj (.ref f) (.ref y)) := x
    show h'.get? a = some (PySem.W.methodObj (.ref f) (.ref y))
    exact k a _ (.inl rfl) e
  | ext φ => obtain ⟨p, ⟨o, e⟩, st⟩ := x; exact ⟨st _ _ p fun o q => k _ _ (.inl rfl) q, ⟨o, k _ _ (.inl rfl) e⟩, st⟩
theorem HOk.lt (x : HOk P w H h) (e : H a = some o) : a < h.objs.size := (x a o e).lt
theorem HOk.fresh (x : HOk P w H h) (e : h.objs.size ≤ a) : H a = none := by
  cases q : H a with
  | none => rfl
  | some u => exact absurd (Nat.lt_of_lt_of_le (x.lt q) e) (Nat.lt_irrefl _)
theorem HOk.kept (x : HOk P w H h) (k : ∀ b u, h.get? b = some u → h'.get? b = some u) : HOk P w H h' := fun a o e =>
  (x a o e).stay (fun b u _ q => k b u q) (fun _ q => q) fun _ _ q => q
theorem HOk.laid (x : HOk P w H h) (k : ∀ b u, h.get? b = some u → h'.get? b = some u) (hp : h.objs.size ≤ a) (new : ObjOk P w (upd H a o) h' a o) : HOk P w (upd H a o) h' := fun b u e => by
  have hn := x.fresh hp
  by_cases hb : b = a
  · subst hb; rw [upd_same] at e; cases e; exact new
  · rw [upd_ne hb] at e
    exact (x b u e).stay (fun c v _ q => k c v q) (fun c q => by rw [upd_ne (ne_of_none q hn)]; exact q) fun c xs q => by rw [upd_ne (ne_of_none q hn)]; exact q
end
def Rd (H : Hp) (a : Addr) (u : HO) : Prop := H a = some u ∨ ∃ o, H a = some (.frz o u)
theorem Rd.ok {P : Program} {w : World} {H : Hp} {h : Heap} {a : Addr} {u : HO} (r : Rd H a u) (x : HOk P w H h) : ObjOk P w H h a u := by
  rcases r with r | ⟨o, r⟩
  · exact x a u r
  · obtain ⟨_, q⟩ := x a _ r
    exact q
def Mut : Option HO → Prop
  | some (.lst _) => True
  | some (.dK _) => True
  | some (.dT _) => True
  | some (.set _ _) => True
  | some (.ins _ _ _) => True
  | some (.ext _) => True
  | _ => False
section
variable {P : Program} {w : World} {H : Hp} {h h' : Heap} {x e : Addr} {o' : HO}
theorem HOk.write (ok : HOk P w H h) (mu : Mut (H x)) (he : e = x ∨ H e = some (.own x)) (k : ∀ b u, b ≠ e → h.get? b = some u → h'.get? b = some u) (heo : ∃ u, h'.get? e = some u)
    (new : ObjOk P w (upd H x o') h' x o') : HOk P w (upd H x o') h' := fun b u q => by
  have nown : ∀ c y, H c = some (.own y) → c ≠ x := fun c y r z => by subst z; rw [r] at mu; exact mu
  have ntup : ∀ c xs, H c = some (.tup xs) → c ≠ x := fun c xs r z => by subst z; rw [r] at mu; exact mu
  by_cases hb : b = x
  · subst hb; rw [upd_same] at q; cases q; exact new
  · rw [upd_ne hb] at q
    by_cases hbe : b = e
    · have q' : H b = some (.own x) := by
        rcases he with z | z
        · exact absurd (hbe.trans z) hb
        · rw [hbe]; exact z
      rw [q] at q'; cases q'
      obtain ⟨v, hv⟩ := heo
      exact ⟨v, by rw [hbe]; exact hv⟩
    · refine (ok b u q).stay (fun c v hc r => k c v ?_ r) (fun c r => by rw [upd_ne (nown c b r)]; exact r) fun c xs r => by rw [upd_ne (ntup c xs r)]; exact r
      rcases hc with rfl | hc
      · exact hbe
      · rintro rfl
        rcases he with z | z
        · exact nown c b hc z
        · rw [hc] at z; cases z; exact hb rfl
end
structure Un (fs ex : List Addr) (H H' : Hp) (h h' : Heap) : Prop where
  keep : ∀ b o, h.get? b = some o → H b = none → b ∉ fs → b ∉ ex → h'.get? b = some o
  slot : ∀ b o, h.get? b = some o → H b = none → b ∈ fs → b ∉ ex → ∃ sl, h'.get? b = some { o with slots := sl }
  free : ∀ b o, h.get? b = some o → H b = none → b ∉ ex → H' b = none
  there : ∀ b o, h.get? b = some o → b ∉ ex → ∃ o', h'.get? b = some o'
  tups : ∀ b xs, H b = some (.tup xs) → H' b = some (.tup xs)
  frzs : ∀ b o u, H b = some (.frz o u) → H' b = some (.frz o u)
  tbls : ∀ b ps, H b = some (.tbl ps) → ∃ more, H' b = some (.tbl (ps ++ more))
section
variable {fs fs' ex ex' : List Addr} {H H1 H2 : Hp} {h h1 h2 h' : Heap} {a x e : Addr} {o : HO}
theorem Un.any (u : Un fs ex H H1 h h1) {b : Addr} {ob : Obj} (q : h.get? b = some ob) (n : H b = none) (hx : b ∉ ex) : ∃ sl, h1.get? b = some { ob with slots := sl } := by
  by_cases hb : b ∈ fs
  · exact u.slot b ob q n hb hx
  · exact ⟨ob.slots, u.keep b ob q n hb hx⟩
theorem Un.kept (k : ∀ b u, h.get? b = some u → h'.get? b = some u) : Un fs ex H H h h' :=
  ⟨fun b ob q _ _ _ => k b ob q, fun b ob q _ _ _ => ⟨ob.slots, k b ob q⟩, fun _ _ _ n _ => n, fun b ob q _ => ⟨ob, k b ob q⟩, fun _ _ q => q, fun _ _ _ q => q, fun _ ps q => ⟨#[], by rw [q]; simp⟩⟩
theorem Un.refl : Un fs ex H H h h := Un.kept fun _ _ q => q
theorem Un.laid (k : ∀ b u, h.get? b = some u → h'.get? b = some u) (hp : h.objs.size ≤ a) (hn : H a = none) : Un fs ex H (upd H a o) h h' where
  keep := fun b u q _ _ _ => k b u q
  slot := fun b u q _ _ _ => ⟨u.slots, k b u q⟩
  free := fun b u q n _ => by rw [upd_ne (Nat.ne_of_lt (Nat.lt_of_lt_of_le (Heap.lt_size q) hp))]; exact n
  there := fun b u q _ => ⟨u, k b u q⟩
  tups := fun b xs q => by rw [upd_ne (ne_of_none q hn)]; exact q
  frzs := fun b u xs q => by rw [upd_ne (ne_of_none q hn)]; exact q
  tbls := fun b ps q => ⟨#[], by rw [upd_ne (ne_of_none q hn), q]; simp⟩
theorem Un.write (mu : Mut (H x)) (he : e = x ∨ H e = some (.own x)) (k : ∀ b u, b ≠ e → h.get? b = some u → h'.get? b = some u) (heo : ∃ u, h'.get? e = some u) : Un fs ex H (upd H x o) h h' := by
  have hx : ∀ b, H b = none → b ≠ x := fun b n z => by subst z; rw [n] at mu; exact mu
  have hb : ∀ b, H b = none → b ≠ e := fun b n z => by
    subst z
    rcases he with r | r
    · exact hx b n r
    · rw [n] at r; cases r
  have hm : ∀ b u, H b = some u → ¬ Mut (some u) → b ≠ x := fun b u q nm z => by subst z; rw [q] at mu; exact nm mu
  refine ⟨fun b u q n _ _ => k b u (hb b n) q, fun b u q n _ _ => ⟨u.slots, k b u (hb b n) q⟩, fun b u q n _ => by rw [upd_ne (hx b n)]; exact n, fun b u q _ => ?_,
    fun b xs q => by rw [upd_ne (hm b _ q fun z => z)]; exact q, fun b u xs q => by rw [upd_ne (hm b _ q fun z => z)]; exact q, fun b ps q => ⟨#[], by rw [upd_ne (hm b _ q fun z => z), q]; simp⟩⟩
  by_cases hbe : b = e
  · subst hbe; exact heo
  · exact ⟨u, k b u hbe q⟩
end
def trk (h : Heap) (H : Hp) : List Addr := (List.range h.objs.size).filter fun a => (H a).isSome
def hidT (h : Heap) (H : Hp) : Heap := PySem.W.hideAll h (trk h H)
theorem hidT_size (h : Heap) (H : Hp) : (hidT h H).objs.size = h.objs.size := PySem.W.hideAll_size _ _
theorem hidT_get {h : Heap} {H : Hp} {b : Addr} {o : Obj} (e : h.get? b = some o) (n : H b = none) : (hidT h H).get? b = some o :=
  PySem.W.hideAll_get _ e fun hm => by
    have q : (H b).isSome = true := (List.mem_filter.mp hm).2
    rw [n] at q; simp at q
theorem of_hidT {h : Heap} {H : Hp} {b : Addr} {o : Obj} (e : (hidT h H).get? b = some o) : h.get? b = some o ∧ H b = none := by
  have e' : h.get? b = some o := PySem.W.of_hideAll (trk h H) e
  refine ⟨e', ?_⟩
  cases q : H b with
  | none => rfl
  | some x =>
    have hm : b ∈ trk h H := List.mem_filter.mpr ⟨List.mem_range.mpr (Heap.lt_size e'), by simp [q]⟩
    have z : (hidT h H).get? b = none := PySem.W.hideAll_none (trk h H) hm
    rw [z] at e; cases e
end L2
namespace L2
open PySem PySem.Spec PyProof.Rows
structure Mod (K : PySem.W.Frag) (mg : Str → Option Value) (base : Heap) : Prop where
  kin : K.In base
  glob : base.Ns mainGlobals mg
  blt : ∃ mb, base.Ns builtinsNs mb ∧ ∀ x : Str, x ≠ "__name__" → mb x = bootBuiltins x
  nolimit : base.NoLimit
structure Cx where
  prog : Program
  w : World
  K : PySem.W.Frag
  mg : Str → Option Value
  base : Heap
  A : Around
  N : List Str
  s_0 : Shared
  H_0 : Hp
  env : Env
  outer : List Env
  stack : List Env
  ex : List Addr
  fn : Str → Bool
  calm : Bool
  pn : List (Addr × Obj)
  xe : Value → Shared → Prop
def frs (l : List Env) : List Addr := l.filterMap (·.frame)
abbrev Cx.fs (X : Cx) : List Addr := frs X.outer
def Vis (sc : Scope) (x : Str) : Prop := sc.names.lookup x = some .local ∨ sc.names.lookup x = some .cell ∨ sc.names.lookup x = some .free
def Loc (sc : Scope) (x : Str) : Prop := sc.names.lookup x = some .local ∨ sc.names.lookup x = some .cell
def Look (env : Env) (h : Heap) (m : Str → Option Value) (x : Str) (u : Value) : Prop :=
  (env.kindOf x = some .local ∧ m x = some u) ∨ ((env.kindOf x = some .cell ∨ env.kindOf x = some .free) ∧ ∃ c, env.cells.lookup x = some c ∧ h.IsCell c (some u))
structure Cx.Ok (X : Cx) : Prop where
  mod : Mod X.K X.mg X.base
  kind : X.env.scope.kind = .function
  glob : X.env.globals = mainGlobals
  blt : X.env.builtins = builtinsNs
  above : X.s_0.heap.objs.size ≤ X.env.locals
  inj : ∀ x y c, X.env.cells.lookup x = some c → X.env.cells.lookup y = some c → x = y
  has : ∀ x, (X.env.kindOf x = some .cell ∨ X.env.kindOf x = some .free) → ∃ c, X.env.cells.lookup x = some c
  cab : ∀ x c, X.fn x = true → X.env.cells.lookup x = some c → X.s_0.heap.objs.size ≤ c
  hd : X.calm = true → X.A.handled = none
  frames : X.A.frames = some X.stack
  stk : X.stack = X.outer ∨ (X.stack = X.env :: X.outer ∧ X.env.frame = some X.env.locals)
  exf : ∀ b ∈ X.ex, b ≠ X.env.locals ∧ ∀ x c, X.env.cells.lookup x = some c → c ≠ b
  bs : ∀ b o, X.base.get? b = some o → X.s_0.heap.get? b = some o ∧ X.H_0 b = none
  bsz : X.base.objs.size ≤ X.s_0.heap.objs.size
  noex : ∀ b o, X.base.get? b = some o → b ∉ X.ex
  exfs : ∀ b ∈ X.ex, b ∉ X.fs
  funs : X.s_0.heap.FunFrames X.base X.outer
  frf : ∀ b ∈ X.fs, X.H_0 b = none
structure Inv (X : Cx) (pins : List (Addr × Obj)) (σ : List (Option V)) (H : Hp) (s : Shared) : Prop where
  ok : X.Ok
  os : s.os = X.s_0.os
  bare : AllBare s.gens
  base : Un X.fs X.ex X.H_0 H X.s_0.heap s.heap
  loc : ∃ m, s.heap.Ns X.env.locals m ∧ ∀ (i : Nat) (x : Str) (v : V), X.N[i]? = some x → σ[i]? = some (some v) → Vis X.env.scope x → ∃ u, RelV v u ∧ Look X.env s.heap m x u
  cell : ∀ x c, X.env.cells.lookup x = some c → ∃ v, s.heap.IsCell c v
  free : H X.env.locals = none
  freeC : ∀ x c, X.env.cells.lookup x = some c → H c = none
  pin : ∀ p ∈ X.pn ++ pins, s.heap.get? p.1 = some p.2 ∧ H p.1 = none ∧ p.1 ≠ X.env.locals ∧ p.1 ∉ X.fs ∧ ∀ v, p.2.data ≠ .cell v
  hok : HOk X.prog X.w H s.heap
  len : σ.length = X.N.length
section
variable {X : Cx} {pins : List (Addr × Obj)} {σ : List (Option V)} {H H' : Hp} {s : Shared} {h' : Heap}
theorem Cx.Ok.nofr (ok : X.Ok) {b : Addr} {o : Obj} (e : X.base.get? b = some o) : b ∉ X.fs := fun hb => by
  have := (ok.funs.mem hb).1
  rw [e] at this; cases this
theorem Inv.bs (I : Inv X pins σ H s) : ∀ b o, X.base.get? b = some o → s.heap.get? b = some o ∧ H b = none := fun b o e =>
  ⟨I.base.keep b o (I.ok.bs b o e).1 (I.ok.bs b o e).2 (I.ok.nofr e) (I.ok.noex b o e), I.base.free b o (I.ok.bs b o e).1 (I.ok.bs b o e).2 (I.ok.noex b o e)⟩
theorem Inv.bk (I : Inv X pins σ H s) : ∀ b o, X.base.get? b = some o → s.heap.get? b = some o := fun b o e => (I.bs b o e).1
theorem Inv.mod (I : Inv X pins σ H s) : Mod X.K X.mg X.base := I.ok.mod
theorem Inv.kIn (I : Inv X pins σ H s) : X.K.In s.heap := I.ok.mod.kin.keeps I.bk
theorem Inv.fr (I : Inv X pins σ H s) : ∃ m, Fr X.base X.env.locals s.heap m :=
  let ⟨m, hn, _⟩ := I.loc
  ⟨m, hn, I.bk, Nat.le_trans I.ok.bsz I.ok.above⟩
theorem Inv.lt (I : Inv X pins σ H s) : X.env.locals < s.heap.objs.size := let ⟨_, hn, _⟩ := I.loc; hn.lt
theorem Inv.sz (I : Inv X pins σ H s) : X.s_0.heap.objs.size ≤ s.heap.objs.size := Nat.le_trans I.ok.above (Nat.le_of_lt I.lt)
theorem Inv.nofs (I : Inv X pins σ H s) {a : Addr} (h : s.heap.objs.size ≤ a) : a ∉ X.fs := fun hb => by
  obtain ⟨_, o, ho, _⟩ := I.ok.funs.mem hb
  exact absurd (Nat.lt_of_lt_of_le (Heap.lt_size ho) (Nat.le_trans I.sz h)) (Nat.lt_irrefl _)
theorem Inv.cne (I : Inv X pins σ H s) : ∀ x c, X.env.cells.lookup x = some c → c ≠ X.env.locals := fun x c e z => by
  obtain ⟨v, o, ho, hd⟩ := I.cell x c e
  obtain ⟨m, ⟨o', es, ep, ho', hd', _⟩, _⟩ := I.loc
  rw [z, ho'] at ho; cases ho; rw [hd'] at hd; cases hd
theorem Inv.funs (I : Inv X pins σ H s) : s.heap.FunFrames X.base X.outer := by
  have all : ∀ (l : List Env), (∀ b ∈ frs l, b ∈ X.fs) → X.s_0.heap.FunFrames X.base l → s.heap.FunFrames X.base l := by
    intro l
    induction l with
    | nil => intro _ _; trivial
    | cons env r ih =>
      intro hs hl
      obtain ⟨hk, ⟨L, o, hf, hn, ho, hd⟩, hr⟩ := hl
      have hL : L ∈ X.fs := hs L (by unfold frs; rw [List.filterMap_cons, hf]; exact List.mem_cons_self)
      obtain ⟨sl, e⟩ := I.base.slot L o ho (I.ok.frf L hL) hL fun z => I.ok.exfs L z hL
      exact ⟨hk, ⟨L, _, hf, hn, e, hd⟩, ih (fun b hb => hs b (by unfold frs; rw [List.filterMap_cons, hf]; exact List.mem_cons_of_mem _ hb)) hr⟩
  exact all X.outer (fun _ hb => hb) I.ok.funs
theorem Inv.stack (I : Inv X pins σ H s) : s.heap.FunFrames X.base X.stack := by
  rcases I.ok.stk with e | ⟨e, hf⟩
  · rw [e]; exact I.funs
  · rw [e]
    obtain ⟨m, hn, _⟩ := I.loc
    refine .cons (by rw [I.ok.kind]; decide) hf hn ?_ I.funs
    exact Heap.get?_none_of_le (Nat.le_trans I.ok.bsz I.ok.above)
theorem Inv.stkSub (I : Inv X pins σ H s) : ∀ b ∈ frs X.stack, b ∈ X.env.locals :: X.fs := fun b hb => by
  rcases I.ok.stk with e | ⟨e, hf⟩
  · rw [e] at hb; exact List.mem_cons_of_mem _ hb
  · rw [e] at hb
    unfold frs at hb
    rw [List.filterMap_cons, hf] at hb
    exact hb
theorem Inv.stkFree (I : Inv X pins σ H s) : ∀ b ∈ frs X.stack, H b = none := fun b hb => by
  rcases List.mem_cons.mp (I.stkSub b hb) with e | hb
  · rw [e]; exact I.free
  · obtain ⟨_, o, ho, _⟩ := I.ok.funs.mem hb
    exact I.base.free b o ho (I.ok.frf b hb) fun z => I.ok.exfs b z hb
theorem Inv.step {g' : Array GenState} {t' : Nat} {d' : Drawn} {ch : List Addr} (I : Inv X pins σ H s)
    (hch : ∀ b ∈ ch, (b ∈ X.ex ∨ X.s_0.heap.objs.size ≤ b) ∧ b ≠ X.env.locals ∧ (∀ x c, X.env.cells.lookup x = some c → c ≠ b) ∧ ∀ p ∈ X.pn ++ pins, p.1 ≠ b)
    (keep : ∀ b o, b ≠ X.env.locals → b ∉ X.fs → b ∉ ch → s.heap.get? b = some o → H b = none → h'.get? b = some o)
    (slot : ∀ b o, b ≠ X.env.locals → b ∈ X.fs → b ∉ ch → s.heap.get? b = some o → H b = none → ∃ sl, h'.get? b = some { o with slots := sl }) (free : ∀ b o, b ∉ ch → s.heap.get? b = some o → H b = none → H' b = none)
    (there : ∀ b o, b ∉ ch → s.heap.get? b = some o → ∃ o', h'.get? b = some o')
    (tups : ∀ b xs, H b = some (.tup xs) → H' b = some (.tup xs)) (frzs : ∀ b o u, H b = some (.frz o u) → H' b = some (.frz o u)) (tbls : ∀ b ps, H b = some (.tbl ps) → ∃ more, H' b = some (.tbl (ps ++ more)))
    (ns : ∀ m, s.heap.Ns X.env.locals m → h'.Ns X.env.locals m) (hok : HOk X.prog X.w H' h') (hg : AllBare g') :
    Inv X pins σ H' { s with heap := h', gens := g', drawn := d', toks := t' } := by
  have neL : ∀ b o, X.s_0.heap.get? b = some o → b ≠ X.env.locals := fun b o e => Nat.ne_of_lt (Nat.lt_of_lt_of_le (Heap.lt_size e) I.ok.above)
  have neC : ∀ b o, X.s_0.heap.get? b = some o → b ∉ X.ex → b ∉ ch := fun b o e hx hb => by
    rcases (hch b hb).1 with z | z
    · exact hx z
    · exact absurd (Nat.lt_of_lt_of_le (Heap.lt_size e) z) (Nat.lt_irrefl _)
  have cellK : ∀ x c, X.env.cells.lookup x = some c → ∀ v, s.heap.IsCell c v → h'.IsCell c v := fun x c e v ⟨o, ho, hd⟩ => by
    have nch : c ∉ ch := fun z => (hch c z).2.2.1 x c e rfl
    by_cases hc : c ∈ X.fs
    · obtain ⟨sl, q⟩ := slot c o (I.cne x c e) hc nch ho (I.freeC x c e)
      exact ⟨_, q, hd⟩
    · exact ⟨o, keep c o (I.cne x c e) hc nch ho (I.freeC x c e), hd⟩
  refine ⟨I.ok, I.os, hg, ⟨fun b o e n hb hx => ?_, fun b o e n hb hx => ?_, fun b o e n hx => ?_, fun b o e hx => ?_, fun b xs e => tups b xs (I.base.tups b xs e), fun b o xs e => frzs b o xs (I.base.frzs b o xs e), fun b ps e => ?_⟩, ?_, fun x c e => ?_, ?_, fun x c e => ?_, fun p hp => ?_, hok, I.len⟩
  · exact keep b o (neL b o e) hb (neC b o e hx) (I.base.keep b o e n hb hx) (I.base.free b o e n hx)
  · obtain ⟨sl, e1⟩ := I.base.slot b o e n hb hx
    obtain ⟨sl', e2⟩ := slot b _ (neL b o e) hb (neC b o e hx) e1 (I.base.free b o e n hx)
    exact ⟨sl', e2⟩
  · obtain ⟨o', e1⟩ := I.base.there b o e hx
    exact free b o' (neC b o e hx) e1 (I.base.free b o e n hx)
  · obtain ⟨o', e1⟩ := I.base.there b o e hx
    exact there b o' (neC b o e hx) e1
  · obtain ⟨m1, e1⟩ := I.base.tbls b ps e
    obtain ⟨m2, e2⟩ := tbls b _ e1
    exact ⟨m1 ++ m2, by rw [e2, Array.append_assoc]⟩
  · obtain ⟨m, hn, hl⟩ := I.loc
    refine ⟨m, ns m hn, fun i x v e1 e2 e3 => ?_⟩
    obtain ⟨u, r, l⟩ := hl i x v e1 e2 e3
    refine ⟨u, r, ?_⟩
    rcases l with l | ⟨k, c, e, z⟩
    · exact .inl l
    · exact .inr ⟨k, c, e, cellK x c e _ z⟩
  · obtain ⟨v, z⟩ := I.cell x c e
    exact ⟨v, cellK x c e v z⟩
  · obtain ⟨m, ⟨o, _, _, ho, _⟩, _⟩ := I.loc
    exact free _ o (fun z => (hch _ z).2.1 rfl) ho I.free
  · obtain ⟨v, o, ho, hd⟩ := I.cell x c e
    exact free c o (fun z => (hch c z).2.2.1 x c e rfl) ho (I.freeC x c e)
  · obtain ⟨e, n, ne, nf, d⟩ := I.pin p hp
    have nch : p.1 ∉ ch := fun z => (hch p.1 z).2.2.2 p hp rfl
    exact ⟨keep p.1 p.2 ne nf nch e n, free p.1 p.2 nch e n, ne, nf, d⟩
theorem Inv.un {t' : Nat} (I : Inv X pins σ H s) (u : Un X.fs [] H H' s.heap h') (hok : HOk X.prog X.w H' h') : Inv X pins σ H' { s with heap := h', toks := t' } := by
  obtain ⟨m, ⟨o, es, ep, ho, r⟩, _⟩ := id I.loc
  obtain ⟨sl, hL⟩ := u.any ho I.free (by simp)
  exact I.step (g' := s.gens) (d' := s.drawn) (ch := []) (fun _ z => nomatch z) (fun b o _ hb _ e n => u.keep b o e n hb (by simp)) (fun b o _ hb _ e n => u.slot b o e n hb (by simp)) (fun b o _ e n => u.free b o e n (by simp)) (fun b o _ e => u.there b o e (by simp)) u.tups u.frzs u.tbls (fun m' hm => by
    obtain ⟨o', es', ep', ho', r'⟩ := hm
    rw [ho] at ho'; cases ho'
    exact ⟨_, es', ep', hL, r'⟩) hok I.bare
theorem Inv.call {g' : Array GenState} {t' : Nat} {d' : Drawn} {ch : List Addr} (I : Inv X pins σ H s) (u : Un (frs X.stack) ch H H' s.heap h') (hok : HOk X.prog X.w H' h') (hg : AllBare g')
    (hch : ∀ b ∈ ch, (b ∈ X.ex ∨ X.s_0.heap.objs.size ≤ b) ∧ b ≠ X.env.locals ∧ (∀ x c, X.env.cells.lookup x = some c → c ≠ b) ∧ ∀ p ∈ X.pn ++ pins, p.1 ≠ b) :
    Inv X pins σ H' { s with heap := h', gens := g', drawn := d', toks := t' } := by
  obtain ⟨m, ⟨o, es, ep, ho, r⟩, _⟩ := id I.loc
  obtain ⟨sl, hL⟩ := u.any ho I.free fun z => (hch _ z).2.1 rfl
  exact I.step (ch := ch) hch (fun b o hL hb hc e n => u.keep b o e n (fun z => (List.mem_cons.mp (I.stkSub b z)).elim hL hb) hc) (fun b o _ _ hc e n => u.any e n hc) (fun b o hc e n => u.free b o e n hc) (fun b o hc e => u.there b o e hc) u.tups u.frzs u.tbls (fun m' hm => by
    obtain ⟨o', es', ep', ho', r'⟩ := hm
    rw [ho] at ho'; cases ho'
    exact ⟨_, es', ep', hL, r'⟩) hok hg
theorem Inv.turned {t' : Nat} {it : Addr} (I : Inv X pins σ H s) (k : ∀ b o, b ≠ it → s.heap.get? b = some o → h'.get? b = some o) (hn : H it = none) (hL : it ≠ X.env.locals)
    (h1 : it ∈ X.ex ∨ X.s_0.heap.objs.size ≤ it) (h2 : ∀ x c, X.env.cells.lookup x = some c → c ≠ it) (h3 : ∀ p ∈ X.pn ++ pins, p.1 ≠ it) : Inv X pins σ H { s with heap := h', toks := t' } := by
  have nit : ∀ b u, H b = some u → b ≠ it := fun b u e z => by rw [z, hn] at e; cases e
  refine I.step (g' := s.gens) (d' := s.drawn) (ch := [it]) (fun b hb => ?_) (fun b o _ _ hc e _ => k b o (fun z => hc (by simp [z])) e) (fun b o _ _ hc e _ => ⟨o.slots, k b o (fun z => hc (by simp [z])) e⟩) (fun _ _ _ _ n => n)
    (fun b o hc e => ⟨o, k b o (fun z => hc (by simp [z])) e⟩) (fun _ _ e => e) (fun _ _ _ e => e) (fun b ps e => ⟨#[], by rw [e]; simp⟩) (fun m hm => ?_) (fun b u e => ?_) I.bare
  · have e : b = it := by simpa using hb
    subst e
    exact ⟨h1, hL, h2, h3⟩
  · obtain ⟨o, es, ep, ho, r⟩ := hm
    exact ⟨o, es, ep, k _ o (Ne.symm hL) ho, r⟩
  · refine (I.hok b u e).stay (fun c v hc q => k c v ?_ q) (fun _ q => q) fun _ _ q => q
    rcases hc with z | z
    · rw [z]; exact nit b u e
    · exact nit c _ z
theorem Inv.tok (I : Inv X pins σ H s) (t : Nat) : Inv X pins σ H { s with toks := t } := I.un (h' := s.heap) (t' := t) Un.refl I.hok
theorem Inv.kept {t' : Nat} (I : Inv X pins σ H s) (k : ∀ b u, s.heap.get? b = some u → h'.get? b = some u) : Inv X pins σ H { s with heap := h', toks := t' } := I.un (Un.kept k) (I.hok.kept k)
theorem Inv.laid {a : Addr} {o : HO} {t' : Nat} (I : Inv X pins σ H s) (k : ∀ b u, s.heap.get? b = some u → h'.get? b = some u) (hp : s.heap.objs.size ≤ a) (new : ObjOk X.prog X.w (upd H a o) h' a o) :
    Inv X pins σ (upd H a o) { s with heap := h', toks := t' } := I.un (Un.laid k hp (I.hok.fresh hp)) (I.hok.laid k hp new)
theorem Inv.write {x e : Addr} {o : HO} {t' : Nat} (I : Inv X pins σ H s) (mu : Mut (H x)) (he : e = x ∨ H e = some (.own x)) (k : ∀ b u, b ≠ e → s.heap.get? b = some u → h'.get? b = some u) (heo : ∃ u, h'.get? e = some u)
    (new : ObjOk X.prog X.w (upd H x o) h' x o) : Inv X pins σ (upd H x o) { s with heap := h', toks := t' } := I.un (Un.write mu he k heo) (I.hok.write mu he k heo new)
theorem Inv.weak {σ' : List (Option V)} (I : Inv X pins σ H s) (hl : σ'.length = σ.length) (w : ∀ (i : Nat) v, σ'[i]? = some (some v) → σ[i]? = some (some v)) : Inv X pins σ' H s :=
  ⟨I.ok, I.os, I.bare, I.base, let ⟨m, hn, hl'⟩ := I.loc; ⟨m, hn, fun i x v e1 e2 e3 => hl' i x v e1 (w i v e2) e3⟩, I.cell, I.free, I.freeC, I.pin, I.hok, hl.trans I.len⟩
theorem Inv.pins_of {pins' : List (Addr × Obj)} (I : Inv X pins σ H s) (h : ∀ p ∈ pins', s.heap.get? p.1 = some p.2 ∧ H p.1 = none ∧ p.1 ≠ X.env.locals ∧ p.1 ∉ X.fs ∧ ∀ v, p.2.data ≠ .cell v) : Inv X pins' σ H s :=
  ⟨I.ok, I.os, I.bare, I.base, I.loc, I.cell, I.free, I.freeC, fun p hp => (List.mem_append.mp hp).elim (fun z => I.pin p (List.mem_append_left _ z)) (h p), I.hok, I.len⟩
theorem nodup_ix {N : List Str} (hN : N.Nodup) {i j : Nat} {x : Str} (a : N[i]? = some x) (b : N[j]? = some x) : i = j := by
  obtain ⟨h1, e1⟩ := List.getElem?_eq_some_iff.mp a
  obtain ⟨h2, e2⟩ := List.getElem?_eq_some_iff.mp b
  exact (List.getElem_inj hN).mp (e1.trans e2.symm)
theorem store_ok2 {M : Model} {A : Around} {E : Value → Shared → Prop} {i : Nat} {x : Str} {v : V} {u : Value} {Q : Unit → Shared → Prop} (I : Inv X pins σ H s) (hN : X.N.Nodup) (hi : X.N[i]? = some x) (hx : Loc X.env.scope x) (r : RelV v u)
    (h : ∀ s', Inv X pins (σ.set i (some v)) H s' → (∃ a, Heap.SameBut a s.heap s'.heap ∧ (a = X.env.locals ∨ X.env.cells.lookup x = some a)) → Q () s') (hf : X.fn x = true ∨ X.env.scope.names.lookup x = some .local := by first | exact .inl rfl | exact .inr rfl | assumption) : wpAny M A (storeName X.env x u) Q E s := by
  obtain ⟨m, hn, hl⟩ := id I.loc
  have hcls : (X.env.scope.kind == .class || (X.env.scope.kind == .module && X.env.locals != X.env.globals)) = false := by rw [I.ok.kind]; rfl
  have hiσ : i < σ.length := by rw [I.len]; exact (List.getElem?_eq_some_iff.mp hi).1
  have cne := I.cne
  have tracked : ∀ {a : Addr} {h' : Heap}, (∃ o, s.heap.get? a = some o ∧ H a = none) → Heap.SameBut a s.heap h' → HOk X.prog X.w H h' := fun {a h'} ha hs b ob e => by
    obtain ⟨_, _, hfree⟩ := ha
    refine (I.hok b ob e).stay (fun c w' hc q => (hs.2 c ?_).trans q) (fun _ q => q) fun _ _ q => q
    rintro rfl
    rcases hc with rfl | hc
    · rw [hfree] at e; cases e
    · rw [hfree] at hc; cases hc
  rcases hx with hk | hk
  · refine wpAny_storeName_local hk hn (fun h' hn' hs => ?_) hcls
    obtain ⟨oL, _, _, hoL, _⟩ := id hn
    refine h _ ⟨I.ok, I.os, I.bare, ⟨fun b o e n hb hx => ?_, fun b o e n hb hx => ?_, I.base.free, fun b o e hx => ?_, I.base.tups, I.base.frzs, I.base.tbls⟩, ⟨_, hn', fun j y v' e1 e2 e3 => ?_⟩, fun y c e => ?_, I.free, I.freeC, fun p hp => ?_, tracked ⟨oL, hoL, I.free⟩ hs, by simpa using I.len⟩ ⟨_, hs, .inl rfl⟩
    · exact (hs.2 b (Nat.ne_of_lt (Nat.lt_of_lt_of_le (Heap.lt_size e) I.ok.above))).trans (I.base.keep b o e n hb hx)
    · obtain ⟨sl, e1⟩ := I.base.slot b o e n hb hx
      exact ⟨sl, (hs.2 b (Nat.ne_of_lt (Nat.lt_of_lt_of_le (Heap.lt_size e) I.ok.above))).trans e1⟩
    · obtain ⟨o', e1⟩ := I.base.there b o e hx
      exact ⟨o', (hs.2 b (Nat.ne_of_lt (Nat.lt_of_lt_of_le (Heap.lt_size e) I.ok.above))).trans e1⟩
    · by_cases hj : j = i
      · subst hj
        rw [hi] at e1; cases e1
        rw [List.getElem?_set_self hiσ] at e2
        cases e2
        exact ⟨u, r, .inl ⟨hk, by simp⟩⟩
      · rw [List.getElem?_set_ne (Ne.symm hj)] at e2
        obtain ⟨u', r', q⟩ := hl j y v' e1 e2 e3
        refine ⟨u', r', ?_⟩
        rcases q with ⟨k, e⟩ | ⟨k, c, e, z⟩
        · refine .inl ⟨k, ?_⟩
          have : y ≠ x := fun e => hj (nodup_ix hN e1 (e ▸ hi))
          simp [this, e]
        · exact .inr ⟨k, c, e, z.sameBut hs (cne y c e)⟩
    · obtain ⟨w', z⟩ := I.cell y c e
      exact ⟨w', z.sameBut hs (cne y c e)⟩
    · obtain ⟨e, n, ne, nf, d⟩ := I.pin p hp
      exact ⟨(hs.2 p.1 ne).trans e, n, ne, nf, d⟩
  · have hfn : X.fn x = true := by
      rcases hf with z | z
      · exact z
      · rw [z] at hk; cases hk
    obtain ⟨c, hc⟩ := I.ok.has x (.inl hk)
    obtain ⟨w', z⟩ := I.cell x c hc
    refine wpAny_storeName_cell I.ok.kind hk hc z (fun h' hc' hs => ?_)
    obtain ⟨oc, hoc, hocd⟩ := id z
    refine h { s with heap := h' } ⟨I.ok, I.os, I.bare, ⟨fun b o e n hb hx => ?_, fun b o e n hb hx => ?_, I.base.free, fun b o e hx => ?_, I.base.tups, I.base.frzs, I.base.tbls⟩, ⟨m, hn.sameBut hs (Ne.symm (cne x c hc)), fun j y v' e1 e2 e3 => ?_⟩, fun y c' e => ?_, I.free, I.freeC, fun p hp => ?_, tracked ⟨oc, hoc, I.freeC x c hc⟩ hs, by simpa using I.len⟩ ⟨c, hs, .inr hc⟩
    · exact (hs.2 b (Nat.ne_of_lt (Nat.lt_of_lt_of_le (Heap.lt_size e) (I.ok.cab x c hfn hc)))).trans (I.base.keep b o e n hb hx)
    · obtain ⟨sl, e1⟩ := I.base.slot b o e n hb hx
      exact ⟨sl, (hs.2 b (Nat.ne_of_lt (Nat.lt_of_lt_of_le (Heap.lt_size e) (I.ok.cab x c hfn hc)))).trans e1⟩
    · obtain ⟨o', e1⟩ := I.base.there b o e hx
      exact ⟨o', (hs.2 b (Nat.ne_of_lt (Nat.lt_of_lt_of_le (Heap.lt_size e) (I.ok.cab x c hfn hc)))).trans e1⟩
    · by_cases hj : j = i
      · subst hj
        rw [hi] at e1; cases e1
        rw [List.getElem?_set_self hiσ] at e2
        cases e2
        exact ⟨u, r, .inr ⟨.inl hk, c, hc, hc'⟩⟩
      · rw [List.getElem?_set_ne (Ne.symm hj)] at e2
        obtain ⟨u', r', q⟩ := hl j y v' e1 e2 e3
        refine ⟨u', r', ?_⟩
        rcases q with q | ⟨k, c', e, z'⟩
        · exact .inl q
        · refine .inr ⟨k, c', e, z'.sameBut hs ?_⟩
          rintro rfl
          exact hj (nodup_ix hN e1 (I.ok.inj _ _ _ e hc ▸ hi))
    · by_cases hcc : c' = c
      · subst hcc; exact ⟨_, hc'⟩
      · obtain ⟨w2, z2⟩ := I.cell y c' e
        exact ⟨w2, z2.sameBut hs hcc⟩
    · obtain ⟨e, n, ne, nf, d⟩ := I.pin p hp
      refine ⟨(hs.2 p.1 ?_).trans e, n, ne, nf, d⟩
      intro q
      rw [q, hoc] at e
      have q' : oc = p.2 := Option.some.inj e
      exact d w' (by rw [← q']; exact hocd)
theorem store_ok {M : Model} {A : Around} {E : Value → Shared → Prop} {i : Nat} {x : Str} {v : V} {u : Value} {Q : Unit → Shared → Prop} (I : Inv X pins σ H s) (hN : X.N.Nodup) (hi : X.N[i]? = some x) (hx : Loc X.env.scope x) (r : RelV v u)
    (h : ∀ s', Inv X pins (σ.set i (some v)) H s' → Q () s') (hf : X.fn x = true ∨ X.env.scope.names.lookup x = some .local := by first | exact .inl rfl | exact .inr rfl | assumption) : wpAny M A (storeName X.env x u) Q E s :=
  store_ok2 I hN hi hx r (fun s' I' _ => h s' I') hf
theorem Inv.call' {s' : Shared} {ch : List Addr} (I : Inv X pins σ H s) (ho : s'.os = s.os) (u : Un (frs X.stack) ch H H' s.heap s'.heap) (hok : HOk X.prog X.w H' s'.heap) (hg : AllBare s'.gens)
    (hch : ∀ b ∈ ch, (b ∈ X.ex ∨ X.s_0.heap.objs.size ≤ b) ∧ b ≠ X.env.locals ∧ (∀ x c, X.env.cells.lookup x = some c → c ≠ b) ∧ ∀ p ∈ X.pn ++ pins, p.1 ≠ b) : Inv X pins σ H' s' := by
  obtain ⟨h', g', d', t', o'⟩ := s'
  have e : o' = s.os := ho
  subst e
  exact I.call (g' := g') (t' := t') (d' := d') u hok hg hch
end
abbrev XK := Value → Option Addr → Hp → Prop
abbrev St := List (Option V)
abbrev VK := V → Hp → Prop
abbrev TE := St → Hp → VK → Prop
abbrev TT := St → Hp → (Bool → Hp → Prop) → Prop
abbrev TA := St → Hp → (List V → Hp → Prop) → Prop
structure Ends where
  nx : St → Hp → Prop
  rt : VK
  bk : St → Hp → Prop := fun _ _ => False
  ct : St → Hp → Prop := fun _ _ => False
abbrev TS := Ends → St → Hp → Prop
def EP (X : Cx) (pins : List (Addr × Obj)) (σ : St) (Q : VK) (u : Value) (s' : Shared) : Prop := ∃ v H', Inv X pins σ H' s' ∧ RelV v u ∧ Q v H'
def TP (X : Cx) (pins : List (Addr × Obj)) (σ : St) (Q : Bool → Hp → Prop) (b : Bool) (s' : Shared) : Prop := ∃ H', Inv X pins σ H' s' ∧ Q b H'
def AP (X : Cx) (pins : List (Addr × Obj)) (σ : St) (Q : List V → Hp → Prop) (us : List Value) (s' : Shared) : Prop := ∃ vs H', Inv X pins σ H' s' ∧ Vals vs us ∧ Q vs H'
def SP (X : Cx) (pins : List (Addr × Obj)) (D : Ends) (f : Flow) (s' : Shared) : Prop :=
  match f with
  | .next => ∃ σ' H', Inv X pins σ' H' s' ∧ D.nx σ' H'
  | .brk => ∃ σ' H', Inv X pins σ' H' s' ∧ D.bk σ' H'
  | .cont => ∃ σ' H', Inv X pins σ' H' s' ∧ D.ct σ' H'
  | .ret u => ∃ v σ' H', Inv X pins σ' H' s' ∧ RelV v u ∧ D.rt v H'
def PE (X : Cx) (e : Expr) (t : TE) : Prop :=
  ∀ (pins : List (Addr × Obj)) (s : Shared) (σ : St) (H : Hp) (Q : VK), Inv X pins σ H s → t σ H Q → wpAny (model X.prog X.w) X.A (eval e X.env) (EP X pins σ Q) X.xe s
def PT (X : Cx) (e : Expr) (t : TT) : Prop :=
  ∀ (pins : List (Addr × Obj)) (s : Shared) (σ : St) (H : Hp) (Q : Bool → Hp → Prop), Inv X pins σ H s → t σ H Q → wpAny (model X.prog X.w) X.A (isTrue e X.env (eval e X.env)) (TP X pins σ Q) X.xe s
def PW (X : Cx) (e : Expr) (t : TT) : Prop :=
  ∀ (whole : Sem Value) (pins : List (Addr × Obj)) (s : Shared) (σ : St) (H : Hp) (Q : Bool → Hp → Prop), Inv X pins σ H s → t σ H Q → wpAny (model X.prog X.w) X.A (isTrue e X.env whole) (TP X pins σ Q) X.xe s
theorem PW.pt {X : Cx} {e : Expr} {t : TT} (h : PW X e t) : PT X e t := h _
def PA (X : Cx) (es : List Expr) (t : TA) : Prop :=
  ∀ (pos : Pos) (pins : List (Addr × Obj)) (s : Shared) (σ : St) (H : Hp) (Q : List V → Hp → Prop), Inv X pins σ H s → t σ H Q → wpAny (model X.prog X.w) X.A (spliced (backTo pos (starEach es X.env))) (AP X pins σ Q) X.xe s
def PS (X : Cx) (st : Stmt) (t : TS) : Prop :=
  ∀ (pins : List (Addr × Obj)) (s : Shared) (σ : St) (H : Hp) (D : Ends), Inv X pins σ H s → t D σ H → wpAny (model X.prog X.w) X.A (exec st X.env) (SP X pins D) X.xe s
def PSs (X : Cx) (st : List Stmt) (t : TS) : Prop :=
  ∀ (pins : List (Addr × Obj)) (s : Shared) (σ : St) (H : Hp) (D : Ends), Inv X pins σ H s → t D σ H → wpAny (model X.prog X.w) X.A (execs st X.env) (SP X pins D) X.xe s
theorem thn {α : Type} {t : Sem α} {Q Q' : α → Shared → Prop} {M : Model} {A : Around} {E : Value → Shared → Prop} {s : Shared} (h : wpAny M A t Q E s) (hQ : ∀ a s, Q a s → Q' a s) : wpAny M A t Q' E s := wpAny_mono h hQ fun _ _ x => x
end L2
namespace L2
open PySem PySem.Spec PyProof.Rows
section
variable {X : Cx}
theorem bin {a b : Expr} {ta tb : TE} (ha : PE X a ta) (hb : PE X b tb) {pins : List (Addr × Obj)} {s : Shared} {σ : St} {H : Hp} {R : V → V → Hp → Prop} (I : Inv X pins σ H s) (h : ta σ H fun x H1 => tb σ H1 fun y H2 => R x y H2)
    {α : Type} {Q : α → Shared → Prop} {f : Value → Value → Sem α}
    (hf : ∀ v u s2 x y H2, Inv X pins σ H2 s2 → RelV x v → RelV y u → R x y H2 → wpAny (model X.prog X.w) X.A (f v u) Q X.xe s2) :
    wpAny (model X.prog X.w) X.A (eval a X.env) (fun v s₁ => wpAny (model X.prog X.w) X.A (eval b X.env) (fun u s₂ => wpAny (model X.prog X.w) X.A (f v u) Q X.xe s₂) X.xe s₁) X.xe s := by
  refine thn (ha pins s σ H _ I h) fun v s1 ⟨x, H1, I1, r1, q1⟩ => ?_
  refine thn (hb pins s1 σ H1 _ I1 q1) fun u s2 ⟨y, H2, I2, r2, q2⟩ => ?_
  exact hf v u s2 x y H2 I2 r1 r2 q2
def tVar (i : Nat) : TE := fun σ H Q => ∃ v, σ[i]? = some (some v) ∧ Q v H
@[reducible] def tC (v : V) : TE := fun _ H Q => Q v H
theorem pe_var {i : Nat} {x : Str} {pos : Pos} (hN : X.N[i]? = some x) (hv : Vis X.env.scope x) (hd : (x == ("__debug__" : Str)) = false := by decide) (hcd : (x == ("__classdict__" : Str)) = false := by decide) : PE X (.Name x pos) (tVar i) := by
  intro pins s σ H Q I h
  obtain ⟨v, e, h⟩ := h
  obtain ⟨m, hn, hl⟩ := I.loc
  obtain ⟨u, r, l⟩ := hl i x v hN e hv
  have fin : EP X pins σ Q u s := ⟨v, H, I, r, h⟩
  rcases l with ⟨hk, hm⟩ | ⟨hk, c, hc, hcell⟩
  · exact wpAny_Name (wpAny_loadName_local I.ok.kind hk hn hm fin) hd
  · rcases hk with hk | hk
    · exact wpAny_Name (wpAny_loadName_cell I.ok.kind hk hc hcell fin) hd
    · exact wpAny_Name (wpAny_loadName_free I.ok.kind hk hc hcell fin hcd) hd
theorem pe_int {i j pos} : PE X (.Constant (.int i) j pos) (tC (.int i)) := fun _ _ _ H _ I h => wpAny_Constant_int ⟨.int i, H, I.tok _, ⟨_, rfl⟩, h⟩
theorem pe_bl {b j pos} : PE X (.Constant (.bool b) j pos) (tC (.bl b)) := fun _ _ _ H _ I h => Constant_bool ⟨.bl b, H, I, rfl, h⟩
theorem pe_non {j pos} : PE X (.Constant .none j pos) (tC .non) := fun _ _ _ H _ I h => Constant_none ⟨.non, H, I, rfl, h⟩
def Gl (X : Cx) (x : Str) : Prop := X.env.kindOf x = some .globalImplicit
theorem ld_glob {E : Value → Shared → Prop} {pins : List (Addr × Obj)} {s : Shared} {σ : St} {H : Hp} {x : Str} {u : Value} {pos : Pos} {Q : Value → Shared → Prop} (I : Inv X pins σ H s) (hg : Gl X x) (hm : X.mg x = some u) (h : Q u s)
    (hd : (x == ("__debug__" : Str)) = false := by decide) : wpAny (model X.prog X.w) X.A (eval (.Name x pos) X.env) Q E s :=
  Calls.Name_function_global I.ok.kind hg (Calls.loadGlobal_global (by rw [I.ok.glob]; exact I.mod.glob.keeps I.bk) hm h) hd
theorem ld_blt {E : Value → Shared → Prop} {pins : List (Addr × Obj)} {s : Shared} {σ : St} {H : Hp} {x : Str} {u : Value} {pos : Pos} {Q : Value → Shared → Prop} (I : Inv X pins σ H s) (hg : Gl X x) (hm : X.mg x = none) (hv : bootBuiltins x = some u) (h : Q u s)
    (hn : x ≠ "__name__" := by decide) (hd : (x == ("__debug__" : Str)) = false := by decide) : wpAny (model X.prog X.w) X.A (eval (.Name x pos) X.env) Q E s := by
  obtain ⟨mb, h1, h2⟩ := I.mod.blt
  exact Calls.Name_function_global I.ok.kind hg (Calls.loadGlobal_builtin (by rw [I.ok.glob]; exact I.mod.glob.keeps I.bk) hm (by rw [I.ok.blt]; exact h1.keeps I.bk) ((h2 x hn).trans hv) h) hd
theorem pe_glob {x : Str} {v : V} {u : Value} {pos : Pos} (hg : Gl X x) (hm : X.mg x = some u) (r : RelV v u) (hd : (x == ("__debug__" : Str)) = false := by decide) : PE X (.Name x pos) (tC v) :=
  fun _ _ _ H _ I h => ld_glob I hg hm ⟨v, H, I, r, h⟩ hd
variable {a b : Expr} {ta tb : TE} {pos : Pos}
def PC (X : Cx) (op : CmpOp) (a b : Expr) (t : TE) : Prop :=
  ∀ (pins : List (Addr × Obj)) (s : Shared) (σ : St) (H : Hp) (Q : VK), Inv X pins σ H s → t σ H Q →
    wpAny (model X.prog X.w) X.A (eval a X.env) (fun v s₁ => wpAny (model X.prog X.w) X.A (eval b X.env) (fun u s₂ => wpAny (model X.prog X.w) X.A (compareOp op v u) (EP X pins σ Q) X.xe s₂) X.xe s₁) X.xe s
theorem nobehind (b : Expr) {op : CmpOp} (h : op ≠ .In) (h2 : op ≠ .NotIn) : behindInMarks op b = false := by
  have e1 : (op == CmpOp.In) = false := by cases op <;> first | rfl | exact absurd rfl h
  have e2 : (op == CmpOp.NotIn) = false := by cases op <;> first | rfl | exact absurd rfl h2
  cases b <;> simp [behindInMarks, e1, e2]
@[reducible] def tIsN (ta : TE) : TE := fun σ H Q => ta σ H fun x H1 => Q (.bl (decide (x = .non))) H1
@[reducible] def tNotN (ta : TE) : TE := fun σ H Q => ta σ H fun x H1 => Q (.bl (!decide (x = .non))) H1
theorem RelV.none_iff {x : V} {v : Value} (r : RelV x v) : (v == Value.none) = decide (x = .non) := by
  cases x with
  | non => cases r; rfl
  | bl _ => cases r; rfl
  | int _ => obtain ⟨t, rfl⟩ := r; rfl
  | str _ => obtain ⟨t, rfl⟩ := r; rfl
  | byt _ => obtain ⟨t, rfl⟩ := r; rfl
  | flt _ => obtain ⟨t, rfl⟩ := r; rfl
  | ref _ => cases r; rfl
  | ty _ => cases r; rfl
theorem pc_isN {j pos'} (ha : PE X a ta) : PC X .Is a (.Constant .none j pos') (tIsN ta) := by
  intro pins s σ H Q I h
  refine thn (ha pins s σ H _ I h) fun v s1 ⟨x, H1, I1, r1, q1⟩ => ?_
  exact Constant_none (is_none_gen ⟨.bl _, H1, I1, by rw [r1.none_iff]; rfl, q1⟩)
theorem pc_notN {j pos'} (ha : PE X a ta) : PC X .IsNot a (.Constant .none j pos') (tNotN ta) := by
  intro pins s σ H Q I h
  refine thn (ha pins s σ H _ I h) fun v s1 ⟨x, H1, I1, r1, q1⟩ => ?_
  exact Constant_none (isnot_none_gen ⟨.bl _, H1, I1, by rw [r1.none_iff]; rfl, q1⟩)
@[reducible] def tB (t : TE) : TT := fun σ H Q => t σ H fun x H1 => ∃ c, x = .bl c ∧ Q c H1
theorem pe_cmp {op : CmpOp} {t : TE} (h : PC X op a b t) (h1 : behindInMarks op b = false := by first | exact nobehind _ (by decide) (by decide) | rfl) : PE X (.Compare a [op] [b] pos) t := fun pins s σ H Q I hw => wpAny_Compare1 (h pins s σ H Q I hw) h1
theorem pt_cmp {op : CmpOp} {t : TE} (h : PC X op a b t) (h1 : behindInMarks op b = false := by first | exact nobehind _ (by decide) (by decide) | rfl) : PT X (.Compare a [op] [b] pos) (tB t) := by
  intro pins s σ H Q I hw
  refine wpAny_isTrue_Compare1 (thn (h pins s σ H _ I hw) fun v s1 h1 => thn h1 fun u s2 h2 => thn h2 fun c s3 ⟨x, H1, I1, r1, q1⟩ => ?_) h1
  obtain ⟨d, rfl, q⟩ := q1
  cases r1
  exact wpAny_truthy_bool ⟨H1, I1, q⟩
theorem pt_val {e : Expr} {t : TE} (h : PE X e t) (he : ∀ whole, isTrue e X.env whole = (do let v ← whole; standAt e.pos; holding [v] (truthy v)) := by intro _; rfl) : PT X e (tB t) := by
  intro pins s σ H Q I hw
  refine isTrue_plain (thn (h pins s σ H _ I hw) fun v s1 ⟨x, H1, I1, r1, q1⟩ => ?_) (he _)
  obtain ⟨d, rfl, q⟩ := q1
  cases r1
  exact wpAny_truthy_bool ⟨H1, I1, q⟩
variable {tA tB' : TT} {rest : List Expr}
@[reducible] def tAnd (t u : TT) : TT := fun σ H Q => t σ H fun c H1 => if c = true then u σ H1 Q else Q false H1
@[reducible] def tOr (t u : TT) : TT := fun σ H Q => t σ H fun c H1 => if c = true then Q true H1 else u σ H1 Q
@[reducible] def tNot (t : TT) : TT := fun σ H Q => t σ H fun c H1 => Q (!c) H1
theorem pw_and1 (ha : PT X a tA) : PW X (.BoolOp .And [a] pos) tA := by
  intro wh pins s σ H Q I h
  refine isTrue_and (thn (ha pins s σ H Q I h) fun c s1 e => ?_)
  cases c with
  | true => exact isTrue_and_nil e
  | false => exact e
theorem pw_or1 (ha : PT X a tA) : PW X (.BoolOp .Or [a] pos) tA := by
  intro wh pins s σ H Q I h
  refine isTrue_or (thn (ha pins s σ H Q I h) fun c s1 e => ?_)
  cases c with
  | false => exact isTrue_or_nil e
  | true => exact e
theorem pw_and (ha : PT X a tA) (hb : PW X (.BoolOp .And (b :: rest) pos) tB') : PW X (.BoolOp .And (a :: b :: rest) pos) (tAnd tA tB') := by
  intro wh pins s σ H Q I h
  refine isTrue_and (thn (ha pins s σ H _ I h) fun c s1 ⟨H1, I1, q1⟩ => ?_)
  cases c with
  | true => exact hb wh pins s1 σ H1 Q I1 q1
  | false => exact ⟨H1, I1, q1⟩
theorem pw_or (ha : PT X a tA) (hb : PW X (.BoolOp .Or (b :: rest) pos) tB') : PW X (.BoolOp .Or (a :: b :: rest) pos) (tOr tA tB') := by
  intro wh pins s σ H Q I h
  refine isTrue_or (thn (ha pins s σ H _ I h) fun c s1 ⟨H1, I1, q1⟩ => ?_)
  cases c with
  | true => exact ⟨H1, I1, q1⟩
  | false => exact hb wh pins s1 σ H1 Q I1 q1
theorem pt_not (ha : PT X a tA) : PT X (.UnaryOp .Not a pos) (tNot tA) := by
  intro pins s σ H Q I h
  exact isTrue_not (ha pins s σ H (fun c H1 => Q (!c) H1) I h)
def tAndV (ta tb : TE) : TE := fun σ H Q => ta σ H fun x H1 => ∃ c, x = .bl c ∧ if c = true then tb σ H1 Q else Q (.bl false) H1
def tOrV (ta tb : TE) : TE := fun σ H Q => ta σ H fun x H1 => ∃ c, x = .bl c ∧ if c = true then Q (.bl true) H1 else tb σ H1 Q
@[reducible] def tNotV (ta : TE) : TE := fun σ H Q => ta σ H fun x H1 => ∃ c, x = .bl c ∧ Q (.bl (!c)) H1
theorem pe_one {op} {t : TE} (h : PE X a t) : PE X (.BoolOp op [a] pos) t := fun pins s σ H Q I hw => BoolOp_one (h pins s σ H Q I hw)
theorem pe_and (ha : PE X a ta) (hb : PE X (.BoolOp .And (b :: rest) pos) tb) : PE X (.BoolOp .And (a :: b :: rest) pos) (tAndV ta tb) := by
  intro pins s σ H Q I h
  refine BoolOp_and (thn (ha pins s σ H _ I h) fun v s1 ⟨x, H1, I1, r1, q1⟩ => ?_)
  obtain ⟨c, rfl, q1⟩ := q1
  cases r1
  refine wpAny_truthy_bool ?_
  cases c with
  | true => exact hb pins s1 σ H1 Q I1 q1
  | false => exact ⟨.bl false, H1, I1, rfl, q1⟩
theorem pe_or (ha : PE X a ta) (hb : PE X (.BoolOp .Or (b :: rest) pos) tb) : PE X (.BoolOp .Or (a :: b :: rest) pos) (tOrV ta tb) := by
  intro pins s σ H Q I h
  refine BoolOp_or (thn (ha pins s σ H _ I h) fun v s1 ⟨x, H1, I1, r1, q1⟩ => ?_)
  obtain ⟨c, rfl, q1⟩ := q1
  cases r1
  refine wpAny_truthy_bool ?_
  cases c with
  | false => exact hb pins s1 σ H1 Q I1 q1
  | true => exact ⟨.bl true, H1, I1, rfl, q1⟩
theorem pe_not (ha : PE X a ta) : PE X (.UnaryOp .Not a pos) (tNotV ta) := by
  intro pins s σ H Q I h
  refine UnaryOp_ (thn (ha pins s σ H _ I h) fun v s1 ⟨x, H1, I1, r1, q1⟩ => ?_)
  obtain ⟨c, rfl, q1⟩ := q1
  cases r1
  exact not_of (wpAny_truthy_bool ⟨.bl (!c), H1, I1, rfl, q1⟩)
@[reducible] def tIf (t : TT) (ta tb : TE) : TE := fun σ H Q => t σ H fun c H1 => if c = true then ta σ H1 Q else tb σ H1 Q
theorem pe_ifExp {c : Expr} (hc : PT X c tA) (ha : PE X a ta) (hb : PE X b tb) : PE X (.IfExp c a b pos) (tIf tA ta tb) := by
  intro pins s σ H Q I h
  refine wpAny_IfExp (thn (hc pins s σ H _ I h) fun d s1 ⟨H1, I1, q1⟩ => ?_)
  cases d with
  | true => exact ha pins s1 σ H1 Q I1 q1
  | false => exact hb pins s1 σ H1 Q I1 q1
end
end L2
namespace L2
open PySem PySem.Spec PyProof.Rows
def SqL (K : PySem.W.Frag) (H : Hp) (a : Addr) (xs : List V) : Prop :=
  Rd H a (.lst xs) ∨
    ∃ (o : Obj) (its : Array Value) (n : Nat), K.lookup a = some o ∧ o.cls = .type "list" ∧ o.dict = none ∧ o.data = .seq its n ∧ its.size ≤ sizeLine ∧ Vals xs its.toList
def SqT (K : PySem.W.Frag) (H : Hp) (a : Addr) (xs : List V) : Prop :=
  Rd H a (.tup xs) ∨
    ∃ (o : Obj) (its : Array Value) (n : Nat), K.lookup a = some o ∧ o.cls = .type "tuple" ∧ o.data = .seq its n ∧ its.size ≤ sizeLine ∧ Vals xs its.toList
def absV : Value → Option V
  | .none => some .non
  | .bool b => some (.bl b)
  | .int i _ => some (.int i)
  | .str x _ => some (.str x)
  | .bytes b _ => some (.byt b)
  | .float b _ => some (.flt b)
  | .ref a => some (.ref a)
  | .type n => some (.ty n)
  | _ => none
theorem RelV.abs {x : V} {u : Value} (r : RelV x u) : absV u = some x := by
  cases x with
  | non => cases r; rfl
  | bl _ => cases r; rfl
  | int _ => obtain ⟨t, rfl⟩ := r; rfl
  | str _ => obtain ⟨t, rfl⟩ := r; rfl
  | byt _ => obtain ⟨t, rfl⟩ := r; rfl
  | flt _ => obtain ⟨t, rfl⟩ := r; rfl
  | ref _ => cases r; rfl
  | ty _ => cases r; rfl
theorem RelV.inj {x y : V} {u : Value} (r : RelV x u) (q : RelV y u) : x = y := Option.some.inj (r.abs.symm.trans q.abs)
theorem Vals.inj : ∀ {xs ys : List V} {us : List Value}, Vals xs us → Vals ys us → xs = ys
  | _, _, _, .nil, .nil => rfl
  | _, _, _, .cons r t, .cons r' t' => by rw [r.inj r', Vals.inj t t']
section
variable {X : Cx} {pins : List (Addr × Obj)} {σ : St} {H : Hp} {s : Shared} {a : Addr} {xs ys : List V}
theorem SqL.of {K : PySem.W.Frag} (h : H a = some (.lst xs)) : SqL K H a xs := .inl (.inl h)
theorem SqT.of {K : PySem.W.Frag} (h : H a = some (.tup xs)) : SqT K H a xs := .inl (.inl h)
theorem Inv.list (I : Inv X pins σ H s) (h : SqL X.K H a xs) : ∃ its : List Value, Vals xs its ∧ PlainL s.heap a its.toArray ∧ xs.length ≤ sizeLine := by
  rcases h with h | ⟨o, its, n, hk, hc, hd, hs, hz, r⟩
  · obtain ⟨z, its, n, r, e⟩ := h.ok I.hok
    exact ⟨its, r, ⟨_, n, e, rfl, rfl, rfl⟩, z⟩
  · refine ⟨its.toList, r, ⟨o, n, I.kIn a o hk, hc, hd, by simpa using hs⟩, ?_⟩
    have e := r.length
    simp only [Array.length_toList] at e
    (first | lia | omega)
theorem Inv.tuple (I : Inv X pins σ H s) (h : SqT X.K H a xs) : ∃ its : List Value, Vals xs its ∧ IsTup s.heap a its.toArray ∧ xs.length ≤ sizeLine := by
  rcases h with h | ⟨o, its, n, hk, hc, hs, hz, r⟩
  · obtain ⟨z, its, r, p⟩ := h.ok I.hok
    exact ⟨its, r, p, z⟩
  · refine ⟨its.toList, r, ⟨o, I.kIn a o hk, hc, n, by simpa using hs⟩, ?_⟩
    have e := r.length
    simp only [Array.length_toList] at e
    (first | lia | omega)
theorem Inv.list_inj (I : Inv X pins σ H s) (h : SqL X.K H a xs) (h' : SqL X.K H a ys) : xs = ys := by
  obtain ⟨its, r, ⟨o, n, e, _, _, d⟩, _⟩ := I.list h
  obtain ⟨its', r', ⟨o', n', e', _, _, d'⟩, _⟩ := I.list h'
  rw [e] at e'; cases e'
  rw [d] at d'
  injection d' with d1 _
  have : its = its' := by simpa using congrArg Array.toList d1
  subst this
  exact r.inj r'
end
abbrev Cx.wish (X : Cx) (E : Value → Shared → Prop) : Cx := { X with xe := E }
abbrev Cx.nox (X : Cx) : Cx := X.wish fun _ _ => False
theorem Cx.Ok.wish {X : Cx} (ok : X.Ok) (E : Value → Shared → Prop) : (X.wish E).Ok :=
  ⟨ok.mod, ok.kind, ok.glob, ok.blt, ok.above, ok.inj, ok.has, ok.cab, ok.hd, ok.frames, ok.stk, ok.exf, ok.bs, ok.bsz, ok.noex, ok.exfs, ok.funs, ok.frf⟩
theorem Cx.Ok.unwish {X : Cx} {E : Value → Shared → Prop} (ok : (X.wish E).Ok) : X.Ok :=
  ⟨ok.mod, ok.kind, ok.glob, ok.blt, ok.above, ok.inj, ok.has, ok.cab, ok.hd, ok.frames, ok.stk, ok.exf, ok.bs, ok.bsz, ok.noex, ok.exfs, ok.funs, ok.frf⟩
section
variable {X : Cx} {pins : List (Addr × Obj)} {σ : St} {H : Hp} {s : Shared} {E : Value → Shared → Prop}
theorem Inv.wish (I : Inv X pins σ H s) (E : Value → Shared → Prop) : Inv (X.wish E) pins σ H s := ⟨I.ok.wish E, I.os, I.bare, I.base, I.loc, I.cell, I.free, I.freeC, I.pin, I.hok, I.len⟩
theorem Inv.unwish (I : Inv (X.wish E) pins σ H s) : Inv X pins σ H s := ⟨I.ok.unwish, I.os, I.bare, I.base, I.loc, I.cell, I.free, I.freeC, I.pin, I.hok, I.len⟩
theorem SP.unwish {D : Ends} {f : Flow} {s' : Shared} (h : SP (X.wish E) pins D f s') : SP X pins D f s' := by
  cases f with
  | next => obtain ⟨σ', H', I, q⟩ := h; exact ⟨σ', H', I.unwish, q⟩
  | brk => obtain ⟨σ', H', I, q⟩ := h; exact ⟨σ', H', I.unwish, q⟩
  | cont => obtain ⟨σ', H', I, q⟩ := h; exact ⟨σ', H', I.unwish, q⟩
  | ret u => obtain ⟨v, σ', H', I, r, q⟩ := h; exact ⟨v, σ', H', I.unwish, r, q⟩
theorem PSs.nox {st : List Stmt} {t : TS} (h : PSs X.nox st t) : PSs X st t := fun pins s σ H D I hw =>
  wpAny_mono (h pins s σ H D (I.wish _) hw) (fun _ _ q => q.unwish) fun _ _ z => False.elim z
end
section
variable {X : Cx} {st : Stmt} {rest : List Stmt} {t u : TS} {e : Expr} {te : TE} {pos : Pos}
@[reducible] def tNext : TS := fun D σ H => D.nx σ H
@[reducible] def tSeq (t u : TS) : TS := fun D σ H => t { D with nx := u D } σ H
theorem pss_nil : PSs X [] tNext := fun _ _ σ H _ I h => wpAny_execs_nil ⟨σ, H, I, h⟩
theorem pss_cons (h1 : PS X st t) (h2 : PSs X rest u) : PSs X (st :: rest) (tSeq t u) := by
  intro pins s σ H D I h
  refine wpAny_execs_cons (thn (h1 pins s σ H { D with nx := u D } I h) fun f s1 q => ?_)
  cases f with
  | next =>
    obtain ⟨σ', H', I', q⟩ := q
    exact h2 pins s1 σ' H' D I' q
  | ret v => exact q
  | brk => exact q
  | cont => exact q
theorem pss_one (h1 : PS X st t) : PSs X [st] t := by
  intro pins s σ H D I h
  refine wpAny_execs_cons (thn (h1 pins s σ H D I h) fun f s1 q => ?_)
  cases f with
  | next => exact wpAny_execs_nil q
  | ret v => exact q
  | brk => exact q
  | cont => exact q
theorem Inv.quiet {pins : List (Addr × Obj)} {σ : St} {H : Hp} {s : Shared} (I : Inv X pins σ H s) : interactive X.env = false := by simp [interactive, I.ok.kind]
@[reducible] def tDrop (te : TE) : TS := fun D σ H => te σ H fun _ H1 => D.nx σ H1
theorem ps_expr (he : PE X e te) (hs : swapsWith e none pos.line X.env = pure false := by rfl) : PS X (.Expr e pos) (tDrop te) := by
  intro pins s σ H D I h
  exact wpAny_Expr_any (thn (he pins s σ H _ I h) fun v s1 ⟨x, H1, I1, r1, q1⟩ => ⟨σ, H1, I1, q1⟩) I.quiet hs
@[reducible] def tRet (te : TE) : TS := fun D σ H => te σ H D.rt
theorem ps_ret (he : PE X e te) : PS X (.Return (some e) pos) (tRet te) := by
  intro pins s σ H D I h
  exact wpAny_Return_some (thn (he pins s σ H _ I h) fun v s1 ⟨x, H1, I1, r1, q1⟩ => ⟨x, σ, H1, I1, r1, q1⟩)
@[reducible] def tRetN : TS := fun D _ H => D.rt .non H
theorem ps_retN : PS X (.Return none pos) tRetN := fun _ _ σ H _ I h => wpAny_Return_none ⟨.non, σ, H, I, rfl, h⟩
@[reducible] def tIfS (c : TT) (t u : TS) : TS := fun D σ H => c σ H fun b H1 => if b = true then t D σ H1 else u D σ H1
theorem ps_if {c : Expr} {a b : List Stmt} {tc : TT} (hc : PT X c tc) (ha : PSs X a t) (hb : PSs X b u) : PS X (.If c a b pos) (tIfS tc t u) := by
  intro pins s σ H D I h
  refine wpAny_If (thn (hc pins s σ H _ I h) fun d s1 ⟨H1, I1, q1⟩ => ?_)
  cases d with
  | true => exact ha pins s1 σ H1 D I1 q1
  | false => exact hb pins s1 σ H1 D I1 q1
end
abbrev TG := V → St → Hp → (St → Hp → Prop) → Prop
abbrev TGs := List V → St → Hp → (St → Hp → Prop) → Prop
def PG (X : Cx) (target : Expr) (t : TG) : Prop :=
  ∀ (pins : List (Addr × Obj)) (s : Shared) (σ : St) (H : Hp) (v : V) (u : Value) (Q : St → Hp → Prop), Inv X pins σ H s → RelV v u → t v σ H Q →
    wpAny (model X.prog X.w) X.A (assign target X.env u) (fun _ s' => ∃ σ' H', Inv X pins σ' H' s' ∧ Q σ' H') X.xe s
def PGs (X : Cx) (ts : List Expr) (t : TGs) : Prop :=
  ∀ (pins : List (Addr × Obj)) (s : Shared) (σ : St) (H : Hp) (vs : List V) (us : List Value) (Q : St → Hp → Prop), Inv X pins σ H s → Vals vs us → t vs σ H Q →
    wpAny (model X.prog X.w) X.A (assignInOrder ((assignEach ts X.env).map (·.2)) us) (fun _ s' => ∃ σ' H', Inv X pins σ' H' s' ∧ Q σ' H') X.xe s
abbrev TSet := V → V → V → Hp → (Hp → Prop) → Prop
def PSet (X : Cx) (t : TSet) : Prop :=
  ∀ (pins : List (Addr × Obj)) (s : Shared) (σ : St) (H : Hp) (o i v : V) (ov iv u : Value) (Q : Hp → Prop), Inv X pins σ H s → RelV o ov → RelV i iv → RelV v u → t o i v H Q →
    wpAny (model X.prog X.w) X.A (setItem ov iv u) (fun _ s' => ∃ H', Inv X pins σ H' s' ∧ Q H') X.xe s
abbrev TIp := V → V → Hp → VK → Prop
def PIp (X : Cx) (op : Operator) (t : TIp) : Prop :=
  ∀ (pins : List (Addr × Obj)) (s : Shared) (σ : St) (H : Hp) (x y : V) (v u : Value) (Q : VK), Inv X pins σ H s → RelV x v → RelV y u → t x y H Q →
    wpAny (model X.prog X.w) X.A (inplaceOp op v u) (EP X pins σ Q) X.xe s
section
variable {X : Cx} {pos : Pos}
@[reducible] def gName (i : Nat) : TG := fun v σ H Q => Q (σ.set i (some v)) H
theorem pg_name {i : Nat} {x : Str} (hN : X.N.Nodup) (hi : X.N[i]? = some x) (hx : Loc X.env.scope x) (hf : X.fn x = true ∨ X.env.scope.names.lookup x = some .local := by first | exact .inl rfl | exact .inr rfl | assumption) : PG X (.Name x pos) (gName i) := by
  intro pins s σ H v u Q I r h
  exact wpAny_assign_Name (store_ok I hN hi hx r (fun s' I' => ⟨_, H, I', h⟩) hf)
@[reducible] def gNil : TGs := fun vs σ H Q => vs = [] ∧ Q σ H
@[reducible] def gCons (t : TG) (u : TGs) : TGs := fun vs σ H Q => ∃ v r, vs = v :: r ∧ t v σ H fun σ' H' => u r σ' H' Q
theorem pgs_nil : PGs X [] gNil := by
  intro pins s σ H vs us Q I r h
  obtain ⟨e, h⟩ := h
  subst e
  cases r
  exact assignInOrder_nil ⟨σ, H, I, h⟩
theorem pgs_cons {e : Expr} {es : List Expr} {t : TG} {u : TGs} (h1 : PG X e t) (h2 : PGs X es u)
    (hs : (assignEach (e :: es) X.env).map (·.2) = assign e X.env :: (assignEach es X.env).map (·.2) := by rfl) : PGs X (e :: es) (gCons t u) := by
  intro pins s σ H vs us Q I r h
  obtain ⟨v, vr, e1, h⟩ := h
  subst e1
  cases r with
  | cons r rr =>
    rw [hs]
    refine assignInOrder_cons (thn (h1 pins s σ H _ _ _ I r h) fun _ s1 ⟨σ1, H1, I1, q1⟩ => ?_)
    exact h2 pins s1 σ1 H1 _ _ Q I1 rr q1
def gTup (K : PySem.W.Frag) (n : Nat) (t : TGs) : TG := fun v σ H Q => ∃ a xs, v = .ref a ∧ SqT K H a xs ∧ xs.length = n ∧ t xs σ H Q
theorem pg_tup {es : List Expr} {k : Nat} {t : TGs} {n : Nat} (hc : X.calm = true) (h : PGs X es t)
    (hn : (assignEach es X.env).length = n := by rfl) (hst : (assignEach es X.env).findIdx? (·.1) = none := by rfl) : PG X (.Tuple es k pos) (gTup X.K n t) := by
  intro pins s σ H v u Q I r hw
  obtain ⟨a, xs, e1, hq, hl, hw⟩ := hw
  subst e1
  cases r
  obtain ⟨its, rv, ht, hz⟩ := I.tuple hq
  refine assign_Tuple_tuple (I.ok.hd hc) ht (by simp [hn, ← hl, rv.length]) hst fun h' hx => ?_
  have I1 : Inv X pins σ H { s with heap := h' } := I.kept (t' := s.toks) fun b o e => hx b o (Nat.ne_of_lt (Heap.lt_size e)) e
  exact h pins _ σ H xs _ Q I1 (by simpa using rv) hw
@[reducible] def gSub (to ti : TE) (t : TSet) : TG := fun v σ H Q => to σ H fun o H1 => ti σ H1 fun i H2 => t o i v H2 fun H3 => Q σ H3
theorem pg_sub {o i : Expr} {to ti : TE} {t : TSet} (ho : PE X o to) (hi : PE X i ti) (hs : PSet X t)
    (ha : ∀ v, assign (.Subscript o i pos) X.env v = (do
      let ov ← holding [v] (eval o X.env)
      let iv ← holding [v, ov] (eval i X.env)
      standAt pos
      holding [v, ov, iv] (setItem ov iv v)
      release [v, ov, iv] []) := by intro _; rfl) : PG X (.Subscript o i pos) (gSub to ti t) := by
  intro pins s σ H v u Q I r h
  rw [ha]
  refine wpAny_bind (wpAny_holding (thn (ho pins s σ H _ I h) fun ov s1 ⟨x, H1, I1, r1, q1⟩ => ?_))
  refine wpAny_bind (wpAny_holding (thn (hi pins s1 σ H1 _ I1 q1) fun iv s2 ⟨y, H2, I2, r2, q2⟩ => ?_))
  refine wpAny_bind (wpAny_standAt (wpAny_bind (wpAny_holding (thn (hs pins s2 σ H2 x y v ov iv u _ I2 r1 r2 r q2) fun _ s3 ⟨H3, I3, q3⟩ => ?_))))
  exact wpAny_release ⟨σ, H3, I3, q3⟩
@[reducible] def tAsg (te : TE) (g : TG) : TS := fun D σ H => te σ H fun x H1 => g x σ H1 D.nx
theorem ps_asg {tg e : Expr} {te : TE} {g : TG} (he : PE X e te) (hg : PG X tg g) (hs : swapsWithSole [tg] e pos.line X.env = pure false := by rfl) (hw : swappedStores [tg] e X.env = pure none := by rfl)
    (h1 : (assignEach [tg] X.env).map (·.2) = [assign tg X.env] := by rfl) : PS X (.Assign [tg] e pos) (tAsg te g) := by
  intro pins s σ H D I h
  refine wpAny_Assign_stores (thn (he pins s σ H _ I h) fun v s1 ⟨x, H1, I1, r1, q1⟩ => ?_) hs hw
  rw [h1]
  exact thn (hg pins s1 σ H1 x v _ I1 r1 q1) fun _ s2 q => q
theorem ps_set {i : Nat} {x : Str} {e : Expr} {te : TE} {pos' : Pos} (hN : X.N.Nodup) (hi : X.N[i]? = some x) (hx : Loc X.env.scope x) (he : PE X e te) (hs : swapsWith e (some (.Name x pos')) pos.line X.env = pure false := by rfl) (hf : X.fn x = true ∨ X.env.scope.names.lookup x = some .local := by first | exact .inl rfl | exact .inr rfl | assumption) :
    PS X (.Assign [.Name x pos'] e pos) (tAsg te (gName i)) := by
  intro pins s σ H D I h
  refine wpAny_Assign_Name (thn (he pins s σ H _ I h) fun v s1 ⟨y, H1, I1, r1, q1⟩ => ?_) hs
  exact store_ok I1 hN hi hx r1 (fun s2 I2 => ⟨_, H1, I2, q1⟩) hf
@[reducible] def tAugS (to ti te : TE) (tget : V → V → Hp → VK → Prop) (tip : TIp) (tset : TSet) : TS := fun D σ H => to σ H fun o H1 => ti σ H1 fun i H2 => tget o i H2 fun x H3 => te σ H3 fun y H4 => tip x y H4 fun z H5 => tset o i z H5 fun H6 => D.nx σ H6
def PGet (X : Cx) (t : V → V → Hp → VK → Prop) : Prop :=
  ∀ (pins : List (Addr × Obj)) (s : Shared) (σ : St) (H : Hp) (o i : V) (ov iv : Value) (Q : VK), Inv X pins σ H s → RelV o ov → RelV i iv → t o i H Q →
    wpAny (model X.prog X.w) X.A (getItem ov iv) (EP X pins σ Q) X.xe s
theorem ps_augS {o i e : Expr} {to ti te : TE} {tget : V → V → Hp → VK → Prop} {tip : TIp} {tset : TSet} {op : Operator} {tpos : Pos} (ho : PE X o to) (hi : PE X i ti) (hg : PGet X tget) (he : PE X e te) (hp : PIp X op tip) (hs : PSet X tset)
    (ha : ∀ ov iv new, augStore i ov iv new = (do holding [new, ov, iv] (setItem ov iv new); release [new, ov, iv] []; pure .next) := by intros; rfl) : PS X (.AugAssign (.Subscript o i tpos) op e pos) (tAugS to ti te tget tip tset) := by
  intro pins s σ H D I h
  refine wpAny_AugAssign_SubscriptAny (thn (ho pins s σ H _ I h) fun ov s1 ⟨x1, H1, I1, r1, q1⟩ => ?_) ha
  refine thn (hi pins s1 σ H1 _ I1 q1) fun iv s2 ⟨x2, H2, I2, r2, q2⟩ => ?_
  refine thn (hg pins s2 σ H2 x1 x2 ov iv _ I2 r1 r2 q2) fun old s3 ⟨x3, H3, I3, r3, q3⟩ => ?_
  refine thn (he pins s3 σ H3 _ I3 q3) fun v s4 ⟨x4, H4, I4, r4, q4⟩ => ?_
  refine thn (hp pins s4 σ H4 x3 x4 old v _ I4 r3 r4 q4) fun new s5 ⟨x5, H5, I5, r5, q5⟩ => ?_
  exact thn (hs pins s5 σ H5 x1 x2 x5 ov iv new _ I5 r1 r2 r5 q5) fun _ s6 ⟨H6, I6, q6⟩ => ⟨σ, H6, I6, q6⟩
def ipI (f : Int → Int → Int) : TIp := fun x y H Q => ∃ i j, x = .int i ∧ y = .int j ∧ Q (.int (f i j)) H
theorem ip_add : PIp X .Add (ipI fun i j => i + j) := by
  intro pins s σ H x y v u Q I r1 r2 h
  obtain ⟨i, j, e1, e2, q⟩ := h
  subst e1; subst e2
  obtain ⟨t, rfl⟩ := r1
  obtain ⟨t', rfl⟩ := r2
  exact iadd_int ⟨.int _, H, I.tok _, ⟨_, rfl⟩, q⟩
end
section
variable {X : Cx} {pos : Pos}
@[reducible] def tWhile (c : TT) (tb : TS) : TS := fun D σ H => ∃ W : Nat → St → Hp → Prop, (∃ m, W m σ H) ∧ ∀ m σ H, W m σ H →
  c σ H fun b H1 => if b = true then ∃ N : St → Hp → Prop, (∀ σ' H', N σ' H' → ∃ m', m' < m ∧ W m' σ' H') ∧ tb { D with nx := N, ct := N, bk := D.nx } σ H1 else D.nx σ H1
theorem ps_while {c : Expr} {body : List Stmt} {tc : TT} {tb : TS} (hp : PassesOwn (model X.prog X.w) X.A X.env X.xe) (hc : PT X c tc) (hb : PSs X body tb) : PS X (.While c body [] pos) (tWhile tc tb) := by
  intro pins s σ H D I h
  obtain ⟨W, ⟨m0, w0⟩, turn⟩ := h
  refine wpAny_While (codeAny_whileLoop (fun n s' => ∃ σ' H', Inv X pins σ' H' s' ∧ W n σ' H') ?_ m0 ⟨σ, H, I, w0⟩)
  rintro n s1 ⟨σ1, H1, I1, w1⟩
  refine wpAny_passesOwn hp (thn (hc pins s1 σ1 H1 _ I1 (turn n σ1 H1 w1)) fun b s2 ⟨H2, I2, q2⟩ => ?_)
  cases b with
  | true =>
    obtain ⟨N, hN, q2⟩ := q2
    rw [if_pos rfl]
    refine wpAny_passesOwn hp (thn (hb pins s2 σ1 H2 _ I2 q2) fun f s3 q3 => ?_)
    cases f with
    | next =>
      obtain ⟨σ3, H3, I3, n3⟩ := q3
      obtain ⟨m', hm, w3⟩ := hN σ3 H3 n3
      exact ⟨m', hm, σ3, H3, I3, w3⟩
    | cont =>
      obtain ⟨σ3, H3, I3, n3⟩ := q3
      obtain ⟨m', hm, w3⟩ := hN σ3 H3 n3
      exact ⟨m', hm, σ3, H3, I3, w3⟩
    | brk => exact q3
    | ret v => exact q3
  | false =>
    rw [if_neg Bool.false_ne_true]
    exact wpAny_execs_nil ⟨σ1, H2, I2, q2⟩
end
structure It where
  go : Nat → Hp → Prop
  yld : Nat → Hp → V → Hp → Prop
  stop : Nat → Hp → Prop
def FpOk (X : Cx) (pins : List (Addr × Obj)) (H : Hp) (b : Addr) : Prop :=
  H b = none ∧ b ≠ X.env.locals ∧ b ∉ X.fs ∧ (b ∈ X.ex ∨ X.s_0.heap.objs.size ≤ b) ∧ (∀ x c, X.env.cells.lookup x = some c → c ≠ b) ∧ ∀ p ∈ X.pn ++ pins, p.1 ≠ b
theorem Inv.fpOk {X : Cx} {pins : List (Addr × Obj)} {σ : St} {H H' : Hp} {s : Shared} {b : Addr} (I : Inv X pins σ H s) (hb : s.heap.objs.size ≤ b) (hn : H' b = none) : FpOk X pins H' b := by
  refine ⟨hn, Nat.ne_of_gt (Nat.lt_of_lt_of_le I.lt hb), I.nofs hb, .inr (Nat.le_trans I.sz hb), fun x c e z => ?_, fun p hp z => ?_⟩
  · obtain ⟨v, q⟩ := I.cell x c e
    exact absurd (Nat.lt_of_lt_of_le q.lt (by rw [z]; exact hb)) (Nat.lt_irrefl _)
  · exact absurd (Nat.lt_of_lt_of_le (Heap.lt_size (I.pin p hp).1) (by rw [z]; exact hb)) (Nat.lt_irrefl _)
structure Turn (P : Program) (w : World) (K : PySem.W.Frag) (tg : Expr) (J : It) (fp : List Addr) (it : Addr) (tn : Nat → Heap → Prop) : Prop where
  mem : it ∈ fp
  obj : ∀ i h, tn i h → ∀ b ∈ fp, ∃ o, h.get? b = some o ∧ ∀ v, o.data ≠ .cell v
  keep : ∀ i h h', tn i h → (∀ b ∈ fp, ∀ o, h.get? b = some o → h'.get? b = some o) → tn i h'
  item : ∀ (X : Cx), X.prog = P → X.w = w → X.K = K → X.calm = true → ∀ (i : Nat) (pins : List (Addr × Obj)) (s : Shared) (σ : St) (H : Hp) (E : Value → Shared → Prop), Inv X pins σ H s → (∀ b ∈ fp, FpOk X pins H b) → tn i s.heap → J.go i H →
    wpAny (model P w) X.A (pyNext (.ref it)) (fun r s1 => ∃ u, r = some u ∧
      wpAny (model P w) X.A (letOwnedTupleGo tg (.ref it) u) (fun _ s2 => ∃ x H', Inv X pins σ H' s2 ∧ RelV x u ∧ J.yld i H x H' ∧ tn (i + 1) s2.heap ∧ ∀ b ∈ fp, H' b = none) E s1) E s
  done : ∀ (X : Cx), X.prog = P → X.w = w → X.K = K → X.calm = true → ∀ (i : Nat) (pins : List (Addr × Obj)) (s : Shared) (σ : St) (H : Hp) (E : Value → Shared → Prop), Inv X pins σ H s → (∀ b ∈ fp, FpOk X pins H b) → tn i s.heap → J.stop i H →
    wpAny (model P w) X.A (pyNext (.ref it)) (fun r s1 => r = none ∧ Inv X pins σ H s1) E s
  self : ∀ (A : Around) (i : Nat) (s : Shared) (Q : Value → Shared → Prop) (E : Value → Shared → Prop), tn i s.heap → Q (.ref it) s → wpAny (model P w) A (pyIter (.ref it)) Q E s
abbrev TI := St → Hp → (It → Hp → Prop) → Prop
def PIE (X : Cx) (pins : List (Addr × Obj)) (σ : St) (tg : Expr) (R : It → Hp → Prop) (itv : Value) (s2 : Shared) : Prop :=
  ∃ (it : Addr) (fp : List Addr) (tn : Nat → Heap → Prop) (J : It) (H' : Hp), itv = .ref it ∧ Inv X pins σ H' s2 ∧ Turn X.prog X.w X.K tg J fp it tn ∧ tn 0 s2.heap ∧ (∀ b ∈ fp, FpOk X pins H' b) ∧ R J H'
def PI (X : Cx) (tg iter : Expr) (wi : TI) : Prop :=
  ∀ (pins : List (Addr × Obj)) (s : Shared) (σ : St) (H : Hp) (R : It → Hp → Prop), Inv X pins σ H s → wi σ H R →
    wpAny (model X.prog X.w) X.A (eval iter X.env) (fun v s1 => wpAny (model X.prog X.w) X.A (pyIter v) (PIE X pins σ tg R) X.xe s1) X.xe s
theorem go_of {M : Model} {A : Around} {E : Value → Shared → Prop} {s : Shared} {tg : Expr} {it : Addr} {u : Value} {o : Obj} {n : String} {vs : Array Value} {Q : Unit → Shared → Prop} (ho : s.heap.get? it = some o) (hc : o.cls = .type n) (hd : o.data = .fields vs)
    (hn : ["enumerate", "zip", "dict_itemiterator", "dict_reverseitemiterator", "odict_iterator", "itertools.zip_longest", "itertools.pairwise"].contains n = false) (hQ : Q () s) : wpAny M A (letOwnedTupleGo tg (.ref it) u) Q E s := by
  unfold letOwnedTupleGo
  cases tg <;> first
    | exact wpAny_pure hQ
    | (cases u <;> first
        | exact wpAny_pure hQ
        | (refine wpAny_bind (wpAny_load ho ?_)
           rw [hc, hd]
           show wpAny M A (if (["enumerate", "zip", "dict_itemiterator", "dict_reverseitemiterator", "odict_iterator", "itertools.zip_longest", "itertools.pairwise"].contains n && vs[0]? == some (rawInt _)) = true then _ else _) Q E s
           rw [if_neg (by intro h; rw [hn, Bool.false_and] at h; cases h)]
           exact wpAny_pure hQ))
def Itl (K : PySem.W.Frag) (a : Addr) : It :=
  ⟨fun i H => ∃ xs x, SqL K H a xs ∧ xs[i]? = some x, fun i H x H' => H' = H ∧ ∀ xs, SqL K H a xs → xs[i]? = some x, fun i H => ∃ xs, SqL K H a xs ∧ xs.length ≤ i⟩
def Itr (lo : Int) (n : Nat) : It := ⟨fun i _ => i < n, fun i H x H' => H' = H ∧ x = .int (lo + i), fun i _ => n ≤ i⟩
theorem turn_list {P : Program} {w : World} {K : PySem.W.Frag} {tg : Expr} (a it : Addr) : Turn P w K tg (Itl K a) [it] it (fun i h => h.IsListIter it a i) where
  mem := by simp
  obj := fun i h st b hb => by
    have e : b = it := by simpa using hb
    subst e
    obtain ⟨o, e, c, d⟩ := st
    exact ⟨o, e, fun v z => by rw [d] at z; cases z⟩
  keep := fun i h h' st k => st.at fun o e => k it (by simp) o e
  item := by
    intro X hP hw hK hc i pins s σ H E I hf st hg
    subst hP hw hK
    obtain ⟨xs, x, hq, hx⟩ := hg
    obtain ⟨its, rv, p, hz⟩ := I.list hq
    obtain ⟨u, hu, ru⟩ := rv.get hx
    obtain ⟨f0, f1, f2, f3, f4, f5⟩ := hf it (by simp)
    refine wpAny_pyNext_list_item st p.isList (x := u) (by simpa using hu) fun h' st' sb => ?_
    have I1 : Inv X pins σ H { s with heap := h' } := I.turned (t' := s.toks) (fun b o hb e => (sb.2 b hb).trans e) f0 f1 f3 f4 f5
    obtain ⟨o, e, c, d⟩ := id st'
    exact ⟨u, rfl, go_of (s := { s with heap := h' }) e c d (by decide) ⟨x, H, I1, ru, ⟨rfl, fun ys hy => by rw [I.list_inj hy hq]; exact hx⟩, st', fun b hb => (hf b hb).1⟩⟩
  done := by
    intro X hP hw hK hc i pins s σ H E I hf st hg
    subst hP hw hK
    obtain ⟨xs, hq, hx⟩ := hg
    obtain ⟨its, rv, p, hz⟩ := I.list hq
    obtain ⟨f0, f1, f2, f3, f4, f5⟩ := hf it (by simp)
    have hl := rv.length
    exact wpAny_pyNext_list_end (I.ok.hd hc) st p.isList (by simp; (first | lia | omega)) fun h' eb => ⟨rfl, I.turned (t' := s.toks) (fun b o hb e => eb b o hb e) f0 f1 f3 f4 f5⟩
  self := fun _ _ _ _ _ st h => wpAny_pyIter_listiter st h
theorem turn_range {P : Program} {w : World} {K : PySem.W.Frag} {tg : Expr} (it : Addr) (lo : Int) (n : Nat) : Turn P w K tg (Itr lo n) [it] it (fun i h => IsRangeIter h it (lo + (i : Nat) * 1) ((n : Int) - (i : Nat)) 1) where
  mem := by simp
  obj := fun i h st b hb => by
    have e : b = it := by simpa using hb
    subst e
    exact ⟨_, st, fun v z => by
      have z' : Data.fields _ = Data.cell v := z
      cases z'⟩
  keep := fun i h h' st k => k it (by simp) _ st
  item := by
    intro X hP hw hK hc i pins s σ H E I hf st hg
    subst hP hw hK
    obtain ⟨f0, f1, f2, f3, f4, f5⟩ := hf it (by simp)
    have W := Walks.range (prog := X.prog) (w := X.w) (I.ok.hd hc) it lo 1 n
    refine W.item i s _ _ hg st fun v h' tk hv st' kk => ?_
    obtain ⟨t, rfl⟩ := hv
    have I1 : Inv X pins σ H { s with heap := h', toks := tk } := I.turned (fun b o hb e => kk b o (by simpa using hb) e) f0 f1 f3 f4 f5
    refine ⟨_, rfl, go_of (s := { s with heap := h', toks := tk }) (n := "range_iterator") st' rfl rfl (by decide) ⟨.int (lo + i), H, I1, ⟨t, ?_⟩, ⟨rfl, rfl⟩, st', fun b hb => (hf b hb).1⟩⟩
    rw [Int.mul_one]
  done := by
    intro X hP hw hK hc i pins s σ H E I hf st hg
    subst hP hw hK
    obtain ⟨f0, f1, f2, f3, f4, f5⟩ := hf it (by simp)
    exact wpAny_pyNext_range_end (I.ok.hd hc) st (by have : n ≤ i := hg; (first | lia | omega)) fun h' eb => ⟨rfl, I.turned (t' := s.toks) (fun b o hb e => eb b o hb e) f0 f1 f3 f4 f5⟩
  self := fun _ _ _ _ _ st h => wpAny_pyIter_rangeiter st h
end L2
namespace L2
open PySem PySem.Spec PyProof.Rows
section
variable {X : Cx} {tg : Expr}
@[reducible] def iList (K : PySem.W.Frag) (tl : TE) : TI := fun σ H R => tl σ H fun x H1 => ∃ a, x = .ref a ∧ (∃ xs, SqL K H1 a xs) ∧ R (Itl K a) H1
theorem pi_list {l : Expr} {tl : TE} (hl : PE X l tl) : PI X tg l (iList X.K tl) := by
  intro pins s σ H R I h
  refine thn (hl pins s σ H _ I h) fun v s1 ⟨x, H1, I1, r1, q1⟩ => ?_
  obtain ⟨a, e, ⟨xs, hq⟩, q⟩ := q1
  subst e
  cases r1
  obtain ⟨its, rv, p, hz⟩ := I1.list hq
  refine wpAny_pyIter_list p.isList ?_
  refine ⟨s1.heap.objs.size, [s1.heap.objs.size], _, _, H1, rfl, I1.kept (t' := s1.toks) fun b o e => Heap.get?_push_of_some _ e, turn_list a _, ⟨_, Heap.get?_push_size _ rfl, rfl, rfl⟩, fun b hb => ?_, q⟩
  have e : b = s1.heap.objs.size := by simpa using hb
  subst e
  exact I1.fpOk (Nat.le_refl _) (I1.hok.fresh (Nat.le_refl _))
theorem range_it {pins : List (Addr × Obj)} {σ : St} {H : Hp} {s : Shared} {R : It → Hp → Prop} {E : Value → Shared → Prop} {lo hi : Int} {t u v : Tok} {tk : Nat} (I : Inv X pins σ H s) (h1 : -(2 ^ 62) ≤ lo) (h2 : lo < 2 ^ 62) (h3 : -(2 ^ 62) ≤ hi) (h4 : hi < 2 ^ 62)
    (q : R (Itr lo (hi - lo).toNat) H) : wpAny (model X.prog X.w) X.A (pyIter (.ref s.heap.objs.size)) (PIE X pins σ tg R) E { s with heap := s.heap.push { cls := .type "range", data := .fields #[.int lo t, .int hi u, .int 1 v] }, toks := tk } := by
  refine wpAny_pyIter_range (IsRange.new ..) (small_one h1 h2 h3 h4) ?_
  have I1 : Inv X pins σ H { s with heap := s.heap.push { cls := .type "range", data := .fields #[.int lo t, .int hi u, .int 1 v] }, toks := tk } := I.kept fun b o e => Heap.get?_push_of_some _ e
  refine ⟨(s.heap.push { cls := .type "range", data := .fields #[.int lo t, .int hi u, .int 1 v] }).objs.size, [(s.heap.push { cls := .type "range", data := .fields #[.int lo t, .int hi u, .int 1 v] }).objs.size], _, _, H, rfl,
    I1.kept (t' := tk) fun b o e => Heap.get?_push_of_some _ e, turn_range _ lo (hi - lo).toNat, ?_, fun b hb => ?_, q⟩
  · have e1 : lo + ((0 : Nat) : Int) * 1 = lo := by simp
    have e2 : (((hi - lo).toNat : Nat) : Int) - ((0 : Nat) : Int) = Builtin.Range.rangeSize lo hi 1 := by rw [rangeSize_one]; split <;> (first | lia | omega)
    show IsRangeIter _ _ (lo + ((0 : Nat) : Int) * 1) ((((hi - lo).toNat : Nat) : Int) - ((0 : Nat) : Int)) 1
    rw [e1, e2]
    exact Heap.get?_push_size _ rfl
  · have e : b = (s.heap.push { cls := .type "range", data := .fields #[.int lo t, .int hi u, .int 1 v] }).objs.size := by simpa using hb
    subst e
    exact I1.fpOk (Nat.le_refl _) (I1.hok.fresh (Nat.le_refl _))
@[reducible] def iRng1 (ta : TA) : TI := fun σ H R => ta σ H fun vs H1 => ∃ j : Int, vs = [.int j] ∧ -(2 ^ 62) ≤ j ∧ j < 2 ^ 62 ∧ R (Itr 0 j.toNat) H1
theorem pi_range1 {a : Expr} {ta : TA} {p pos : Pos} (hg : Gl X "range") (hm : X.mg "range" = none) (ha : PA X [a] ta) (hs : starEach [a] X.env = [(false, eval a X.env)] := by rfl) : PI X tg (.Call (.Name "range" p) [a] [] pos) (iRng1 ta) := by
  intro pins s σ H R I h
  refine Call_ (ld_blt I hg hm boot_range (PyProof.Rows.callWith_type1 (thn (ha pos pins s σ H _ I h) fun us s1 ⟨vs, H1, I1, r1, q1⟩ => ?_) hs rfl))
  obtain ⟨j, e, q1, q2, q⟩ := q1
  subst e
  cases r1 with
  | cons r rr =>
    cases rr
    obtain ⟨t, rfl⟩ := r
    exact call_range_1 (range_it I1 (by (first | lia | omega)) (by (first | lia | omega)) q1 q2 (by simpa using q))
@[reducible] def tFor (wi : TI) (g : TG) (tb : TS) : TS := fun D σ H => wi σ H fun J H1 => ∃ W : Nat → Nat → St → Hp → Prop, (∃ m, W 0 m σ H1) ∧ ∀ i m σ H, W i m σ H →
  (J.stop i H ∧ D.nx σ H) ∨ (J.go i H ∧ ∃ N : St → Hp → Prop, (∀ σ' H', N σ' H' → ∃ m', m' < m ∧ W (i + 1) m' σ' H') ∧ ∀ x H', J.yld i H x H' → g x σ H' fun σ2 H2 => tb { D with nx := N, ct := N, bk := D.nx } σ2 H2)
def pinsAt (fp : List Addr) (h : Heap) : List (Addr × Obj) := fp.filterMap fun b => (h.get? b).map fun o => (b, o)
theorem mem_pinsAt {fp : List Addr} {h : Heap} {b : Addr} {o : Obj} (hb : b ∈ fp) (e : h.get? b = some o) : (b, o) ∈ pinsAt fp h := List.mem_filterMap.mpr ⟨b, hb, by rw [e]; rfl⟩
theorem of_pinsAt {fp : List Addr} {h : Heap} {p : Addr × Obj} (hp : p ∈ pinsAt fp h) : p.1 ∈ fp ∧ h.get? p.1 = some p.2 := by
  obtain ⟨b, hb, e⟩ := List.mem_filterMap.mp hp
  cases q : h.get? b with
  | none => rw [q] at e; cases e
  | some o =>
    rw [q] at e
    have e' : (b, o) = p := Option.some.inj e
    subst e'
    exact ⟨hb, q⟩
theorem Inv.pinned {pins : List (Addr × Obj)} {σ : St} {H : Hp} {s : Shared} {fp : List Addr} (I : Inv X pins σ H s) (hf : ∀ b ∈ fp, FpOk X pins H b) (ho : ∀ b ∈ fp, ∃ o, s.heap.get? b = some o ∧ ∀ v, o.data ≠ .cell v) : Inv X (pins ++ pinsAt fp s.heap) σ H s :=
  I.pins_of fun p hp => (List.mem_append.mp hp).elim (fun z => I.pin p (List.mem_append_right _ z)) fun z => by
    obtain ⟨hb, e⟩ := of_pinsAt z
    obtain ⟨f0, f1, f2, _⟩ := hf p.1 hb
    obtain ⟨o, e', d⟩ := ho p.1 hb
    rw [e] at e'; cases e'
    exact ⟨e, f0, f1, f2, d⟩
theorem Inv.unpinned {pins pl : List (Addr × Obj)} {σ : St} {H : Hp} {s : Shared} (I : Inv X (pins ++ pl) σ H s) : Inv X pins σ H s := I.pins_of fun p hp => I.pin p (List.mem_append_right _ (List.mem_append_left _ hp))
theorem ps_for {iter : Expr} {body : List Stmt} {wi : TI} {g : TG} {tb : TS} {pos : Pos} (hp : PassesOwn (model X.prog X.w) X.A X.env X.xe) (hc : X.calm = true) (hi : PI X tg iter wi) (hg : PG X tg g) (hb : PSs X body tb)
    (hs : ∀ x, foldedSetIterable iter X.env x = pure x := by intro _; rfl) : PS X (.For tg iter body [] pos) (tFor wi g tb) := by
  intro pins s σ H D I h
  refine wpAny_For (thn (hi pins s σ H _ I h) fun v s1 h1 => thn h1 fun itv s2 h2 => ?_) hs
  obtain ⟨it, fp, tn, J, H2, e, I2, T, st2, f2, W, ⟨m0, w0⟩, turn⟩ := h2
  subst e
  have stat : ∀ {H' : Hp}, (∀ b ∈ fp, H' b = none) → ∀ b ∈ fp, FpOk X pins H' b := fun hn b hb => ⟨hn b hb, (f2 b hb).2⟩
  refine codeAny_forLoop_any (fun n s' => ∃ i σ' H', Inv X pins σ' H' s' ∧ tn i s'.heap ∧ (∀ b ∈ fp, H' b = none) ∧ W i n σ' H') ?_ m0 ⟨0, σ, H2, I2, st2, fun b hb => (f2 b hb).1, w0⟩
  rintro n s3 ⟨i, σ3, H3, I3, st3, fr3, w3⟩
  rcases turn i n σ3 H3 w3 with ⟨stop, qn⟩ | ⟨go, N, hN, step⟩
  · refine wpAny_passesOwn hp (thn (T.done X rfl rfl rfl hc i pins s3 σ3 H3 X.xe I3 (stat fr3) st3 stop) fun r s4 ⟨hr, I4⟩ => ?_)
    subst hr
    exact wpAny_execs_nil ⟨σ3, H3, I4, qn⟩
  · refine wpAny_passesOwn hp (thn (T.item X rfl rfl rfl hc i pins s3 σ3 H3 X.xe I3 (stat fr3) st3 go) fun r s4 ⟨u, hr, h4⟩ => ?_)
    subst hr
    refine wpAny_passesOwn hp (thn h4 fun _ s5 ⟨x, H5, I5, r5, y5, st5, fr5⟩ => ?_)
    have I5' := I5.pinned (stat fr5) (T.obj _ _ st5)
    refine wpAny_passesOwn hp (thn (hg _ s5 σ3 H5 x u _ I5' r5 (step x H5 y5)) fun _ s6 ⟨σ6, H6, I6, q6⟩ => ?_)
    refine wpAny_passesOwn hp (thn (hb _ s6 σ6 H6 _ I6 q6) fun f s7 q7 => ?_)
    have again : ∀ {σ7 : St} {H7 : Hp}, Inv X (pins ++ pinsAt fp s5.heap) σ7 H7 s7 → N σ7 H7 → ∃ m, m < n ∧ ∃ i σ' H', Inv X pins σ' H' s7 ∧ tn i s7.heap ∧ (∀ b ∈ fp, H' b = none) ∧ W i m σ' H' := fun {σ7 H7} I7 n7 => by
      obtain ⟨m', hm, w7⟩ := hN σ7 H7 n7
      refine ⟨m', hm, i + 1, σ7, H7, I7.unpinned, T.keep _ _ _ st5 fun b hb o e => (I7.pin (b, o) (List.mem_append_right _ (List.mem_append_right _ (mem_pinsAt hb e)))).1, fun b hb => ?_, w7⟩
      obtain ⟨o, e, d⟩ := T.obj _ _ st5 b hb
      exact (I7.pin (b, o) (List.mem_append_right _ (List.mem_append_right _ (mem_pinsAt hb e)))).2.1
    cases f with
    | next => obtain ⟨σ7, H7, I7, n7⟩ := q7; exact again I7 n7
    | cont => obtain ⟨σ7, H7, I7, n7⟩ := q7; exact again I7 n7
    | brk => obtain ⟨σ7, H7, I7, q7⟩ := q7; exact ⟨σ7, H7, I7.unpinned, q7⟩
    | ret v => obtain ⟨x7, σ7, H7, I7, r7, q7⟩ := q7; exact ⟨x7, σ7, H7, I7.unpinned, r7, q7⟩
end
theorem for_list {K : PySem.W.Frag} {a : Addr} {xs : List V} {g : TG} {tb : TS} {D : Ends} {σ : St} {H : Hp} (Pv : Nat → St → Hp → Prop) (h0 : Pv 0 σ H) (hl : ∀ i σ H, i ≤ xs.length → Pv i σ H → SqL K H a xs)
    (hs : ∀ i x σ H, xs[i]? = some x → Pv i σ H → g x σ H fun σ2 H2 => tb { D with nx := Pv (i + 1), ct := Pv (i + 1), bk := D.nx } σ2 H2) (hd : ∀ σ H, Pv xs.length σ H → D.nx σ H) :
    ∃ W : Nat → Nat → St → Hp → Prop, (∃ m, W 0 m σ H) ∧ ∀ i m σ H, W i m σ H →
      ((Itl K a).stop i H ∧ D.nx σ H) ∨ ((Itl K a).go i H ∧ ∃ N : St → Hp → Prop, (∀ σ' H', N σ' H' → ∃ m', m' < m ∧ W (i + 1) m' σ' H') ∧ ∀ x H', (Itl K a).yld i H x H' → g x σ H' fun σ2 H2 => tb { D with nx := N, ct := N, bk := D.nx } σ2 H2) := by
  refine ⟨fun i m σ H => m = xs.length - i ∧ i ≤ xs.length ∧ Pv i σ H, ⟨xs.length, by simp, Nat.zero_le _, h0⟩, ?_⟩
  rintro i m σ H ⟨rfl, hi, p⟩
  have q := hl i σ H hi p
  by_cases hlt : i < xs.length
  · refine .inr ⟨⟨xs, xs[i], q, by simp [hlt]⟩, Pv (i + 1), fun σ' H' p' => ⟨xs.length - (i + 1), by (first | lia | omega), rfl, hlt, p'⟩, fun x H' y => ?_⟩
    obtain ⟨e, y⟩ := y
    subst e
    exact hs i x σ _ (y xs q) p
  · have e : i = xs.length := by (first | lia | omega)
    subst e
    exact .inl ⟨⟨xs, q, Nat.le_refl _⟩, hd σ H p⟩
theorem for_range {lo : Int} {n : Nat} {g : TG} {tb : TS} {D : Ends} {σ : St} {H : Hp} (Pv : Nat → St → Hp → Prop) (h0 : Pv 0 σ H)
    (hs : ∀ i σ H, i < n → Pv i σ H → g (.int (lo + i)) σ H fun σ2 H2 => tb { D with nx := Pv (i + 1), ct := Pv (i + 1), bk := D.nx } σ2 H2) (hd : ∀ σ H, Pv n σ H → D.nx σ H) :
    ∃ W : Nat → Nat → St → Hp → Prop, (∃ m, W 0 m σ H) ∧ ∀ i m σ H, W i m σ H →
      ((Itr lo n).stop i H ∧ D.nx σ H) ∨ ((Itr lo n).go i H ∧ ∃ N : St → Hp → Prop, (∀ σ' H', N σ' H' → ∃ m', m' < m ∧ W (i + 1) m' σ' H') ∧ ∀ x H', (Itr lo n).yld i H x H' → g x σ H' fun σ2 H2 => tb { D with nx := N, ct := N, bk := D.nx } σ2 H2) := by
  refine ⟨fun i m σ H => m = n - i ∧ i ≤ n ∧ Pv i σ H, ⟨n, by simp, Nat.zero_le _, h0⟩, ?_⟩
  rintro i m σ H ⟨rfl, hi, p⟩
  by_cases hlt : i < n
  · refine .inr ⟨hlt, Pv (i + 1), fun σ' H' p' => ⟨n - (i + 1), by (first | lia | omega), rfl, hlt, p'⟩, fun x H' y => ?_⟩
    obtain ⟨e, y⟩ := y
    subst e y
    exact hs i σ _ hlt p
  · have e : i = n := by (first | lia | omega)
    subst e
    exact .inl ⟨Nat.le_refl _, hd σ H p⟩
end L2
namespace L2
open PySem PySem.Spec PyProof.Rows
abbrev R2 := V → V → Hp → VK → Prop
def OpR (X : Cx) (f : Value → Value → Sem Value) (r : R2) : Prop :=
  ∀ (pins : List (Addr × Obj)) (s : Shared) (σ : St) (H : Hp) (x y : V) (v u : Value) (Q : VK), Inv X pins σ H s → RelV x v → RelV y u → r x y H Q →
    wpAny (model X.prog X.w) X.A (f v u) (EP X pins σ Q) X.xe s
def UnR (X : Cx) (f : Value → Sem Value) (r : V → Hp → VK → Prop) : Prop :=
  ∀ (pins : List (Addr × Obj)) (s : Shared) (σ : St) (H : Hp) (x : V) (v : Value) (Q : VK), Inv X pins σ H s → RelV x v → r x H Q →
    wpAny (model X.prog X.w) X.A (f v) (EP X pins σ Q) X.xe s
def CallR (X : Cx) (f : Value) (r : List V → Hp → VK → Prop) : Prop :=
  ∀ (pins : List (Addr × Obj)) (s : Shared) (σ : St) (H : Hp) (xs : List V) (us : List Value) (Q : VK), Inv X pins σ H s → Vals xs us → r xs H Q →
    wpAny (model X.prog X.w) X.A (call f us) (EP X pins σ Q) X.xe s
@[reducible] def tOp (r : R2) (ta tb : TE) : TE := fun σ H Q => ta σ H fun x H1 => tb σ H1 fun y H2 => r x y H2 Q
@[reducible] def tUn (r : V → Hp → VK → Prop) (ta : TE) : TE := fun σ H Q => ta σ H fun x H1 => r x H1 Q
def rI (C : Int → Int → Prop) (g : Int → Int → V) : R2 := fun x y H Q => ∃ i j, x = .int i ∧ y = .int j ∧ C i j ∧ Q (g i j) H
def rI0 (g : Int → Int → V) : R2 := fun x y H Q => ∃ i j, x = .int i ∧ y = .int j ∧ Q (g i j) H
def rU (g : Int → V) : V → Hp → VK → Prop := fun x H Q => ∃ i, x = .int i ∧ Q (g i) H
section
variable {X : Cx} {a b c : Expr} {ta tb tc : TE} {pos : Pos}
theorem binT (ha : PE X a ta) (hb : PE X b tb) {pins : List (Addr × Obj)} {s : Shared} {σ : St} {H : Hp} {R : V → V → Hp → Prop} (I : Inv X pins σ H s)
    (h : ta σ H fun x H1 => tb σ H1 fun y H2 => R x y H2) {Q : Value → Shared → Prop} {f : Value → Value → Sem Value}
    (hf : ∀ v u s2 x y H2, Inv X pins σ H2 s2 → RelV x v → RelV y u → R x y H2 → wpAny (model X.prog X.w) X.A (f v u) Q X.xe s2) :
    wpAny (model X.prog X.w) X.A (eval a X.env) (fun v s₁ => wpAny (model X.prog X.w) X.A (eval b X.env) (fun u s₂ => wpAny (model X.prog X.w) X.A (f v u) Q X.xe s₂) X.xe s₁) X.xe s := by
  refine thn (ha pins s σ H _ I h) fun v s1 ⟨x, H1, I1, r1, q1⟩ => ?_
  refine thn (hb pins s1 σ H1 _ I1 q1) fun u s2 ⟨y, H2, I2, r2, q2⟩ => ?_
  exact hf v u s2 x y H2 I2 r1 r2 q2
theorem pe_op {op : Operator} {r : R2} (ho : OpR X (binaryOp op) r) (ha : PE X a ta) (hb : PE X b tb) : PE X (.BinOp a op b pos) (tOp r ta tb) := by
  intro pins s σ H Q I h
  exact wpAny_BinOp (binT ha hb I h fun v u s2 x y H2 I2 rx ry q => ho pins s2 σ H2 x y v u Q I2 rx ry q)
theorem pe_un {op : UnaryOp} {r : V → Hp → VK → Prop} (ho : UnR X (unaryOp op) r) (ha : PE X a ta) : PE X (.UnaryOp op a pos) (tUn r ta) := by
  intro pins s σ H Q I h
  exact UnaryOp_ (thn (ha pins s σ H _ I h) fun v s1 ⟨x, H1, I1, r1, q1⟩ => ho pins s1 σ H1 x v Q I1 r1 q1)
theorem opI {f : Value → Value → Sem Value} {C : Int → Int → Prop} {g : Int → Int → Int}
    (rule : ∀ (i j : Int) (t u : Tok) (s : Shared) (Q : Value → Shared → Prop) (E : Value → Shared → Prop), C i j → Q (.int (g i j) s.toks) { s with toks := s.toks + 1 } → wpAny (model X.prog X.w) X.A (f (.int i t) (.int j u)) Q E s) :
    OpR X f (rI C fun i j => .int (g i j)) := by
  intro pins s σ H x y v u Q I rx ry h
  obtain ⟨i, j, rfl, rfl, hc, q⟩ := h
  obtain ⟨t, rfl⟩ := rx
  obtain ⟨t', rfl⟩ := ry
  exact rule i j t t' s _ _ hc ⟨.int (g i j), H, I.tok _, ⟨_, rfl⟩, q⟩
theorem opI0 {f : Value → Value → Sem Value} {g : Int → Int → Int}
    (rule : ∀ (i j : Int) (t u : Tok) (s : Shared) (Q : Value → Shared → Prop) (E : Value → Shared → Prop), Q (.int (g i j) s.toks) { s with toks := s.toks + 1 } → wpAny (model X.prog X.w) X.A (f (.int i t) (.int j u)) Q E s) :
    OpR X f (rI0 fun i j => .int (g i j)) := by
  intro pins s σ H x y v u Q I rx ry h
  obtain ⟨i, j, rfl, rfl, q⟩ := h
  obtain ⟨t, rfl⟩ := rx
  obtain ⟨t', rfl⟩ := ry
  exact rule i j t t' s _ _ ⟨.int (g i j), H, I.tok _, ⟨_, rfl⟩, q⟩
theorem opB0 {f : Value → Value → Sem Value} {g : Int → Int → Bool}
    (rule : ∀ (i j : Int) (t u : Tok) (s : Shared) (Q : Value → Shared → Prop) (E : Value → Shared → Prop), Q (.bool (g i j)) s → wpAny (model X.prog X.w) X.A (f (.int i t) (.int j u)) Q E s) :
    OpR X f (rI0 fun i j => .bl (g i j)) := by
  intro pins s σ H x y v u Q I rx ry h
  obtain ⟨i, j, rfl, rfl, q⟩ := h
  obtain ⟨t, rfl⟩ := rx
  obtain ⟨t', rfl⟩ := ry
  exact rule i j t t' s _ _ ⟨.bl (g i j), H, I, rfl, q⟩
def CDiv (i j : Int) : Prop := 0 < j ∧ j < 1073741824
def CMul (i j : Int) : Prop := (-(2 ^ 64) < i ∧ i < 2 ^ 64) ∨ (-(2 ^ 64) < j ∧ j < 2 ^ 64)
theorem CMul.ok {i j : Int} (h : CMul i j) : IntMulOk i j := by
  rcases h with ⟨h1, h2⟩ | ⟨h1, h2⟩
  · exact .of_left (intBits_le_64 h1 h2)
  · exact .of_right (intBits_le_64 h1 h2)
theorem op_add : OpR X (binaryOp .Add) (rI0 fun i j => .int (i + j)) := opI0 fun _ _ _ _ _ _ _ q => add_int q
theorem op_sub : OpR X (binaryOp .Sub) (rI0 fun i j => .int (i - j)) := opI0 fun _ _ _ _ _ _ _ q => sub_int q
theorem op_mul : OpR X (binaryOp .Mult) (rI CMul fun i j => .int (i * j)) := opI fun _ _ _ _ _ _ _ hc q => mul_int q hc.ok
theorem op_fdiv : OpR X (binaryOp .FloorDiv) (rI CDiv fun i j => .int (i / j)) := opI fun i j _ _ _ _ _ hc q => by
  have h1 : (0 : Int) < j := hc.1
  have h2 : j < 1073741824 := hc.2
  exact floordiv_int (by (first | lia | omega)) (by rw [Int.fdiv_eq_ediv_of_nonneg i (by (first | lia | omega))]; exact q) (.inl (PyProof.noPylong_small (by (first | lia | omega))))
theorem op_mod : OpR X (binaryOp .Mod) (rI (fun _ j => 0 < j) fun i j => .int (i % j)) := opI fun i j _ _ _ _ _ hc q => by
  have h1 : (0 : Int) < j := hc
  exact mod_int' (by (first | lia | omega)) (by rw [Int.fmod_eq_emod_of_nonneg i (by (first | lia | omega))]; exact q)
theorem unI {f : Value → Sem Value} {g : Int → Int}
    (rule : ∀ (i : Int) (t : Tok) (s : Shared) (Q : Value → Shared → Prop) (E : Value → Shared → Prop), Q (.int (g i) s.toks) { s with toks := s.toks + 1 } → wpAny (model X.prog X.w) X.A (f (.int i t)) Q E s) :
    UnR X f (rU fun i => .int (g i)) := by
  intro pins s σ H x v Q I rx h
  obtain ⟨i, rfl, q⟩ := h
  obtain ⟨t, rfl⟩ := rx
  exact rule i t s _ _ ⟨.int (g i), H, I.tok _, ⟨_, rfl⟩, q⟩
theorem un_neg : UnR X (unaryOp .USub) (rU fun i => .int (-i)) := unI fun _ _ _ _ _ q => neg_int q
end
def scal : V → V → Bool
  | .non, .non => true | .non, .int _ => true | .int _, .non => true | .non, .bl _ => true | .bl _, .non => true | .non, .str _ => true | .str _, .non => true
  | .int _, .int _ => true | .bl _, .bl _ => true | .str _, .str _ => true | .byt _, .byt _ => true
  | .int _, .str _ => true | .str _, .int _ => true | .bl _, .str _ => true | .str _, .bl _ => true
  | _, _ => false
def rEq : R2 := fun x y H Q => scal x y = true ∧ Q (.bl (decide (x = y))) H
def rNe : R2 := fun x y H Q => scal x y = true ∧ Q (.bl (!decide (x = y))) H
theorem dec_int {i j : Int} : decide (V.int i = V.int j) = (i == j) := by
  rw [Bool.eq_iff_iff]
  simp
theorem dec_bl {i j : Bool} : decide (V.bl i = V.bl j) = (i == j) := by
  rw [Bool.eq_iff_iff]
  simp
theorem dec_str {i j : Str} : decide (V.str i = V.str j) = (i == j) := by
  rw [Bool.eq_iff_iff]
  simp
theorem dec_byt {i j : Array UInt8} : decide (V.byt i = V.byt j) = (i.toList == j.toList) := by
  rw [Bool.eq_iff_iff]
  cases i
  cases j
  simp
section
variable {X : Cx} {a b c : Expr} {ta tb tc : TE} {pos : Pos}
theorem fin_bl {pins : List (Addr × Obj)} {σ : St} {H : Hp} {s : Shared} {Q : VK} {k k' : Bool} (I : Inv X pins σ H s) (q : Q (.bl k) H) (e : k = k') : EP X pins σ Q (.bool k') s := by
  subst e
  exact ⟨.bl k, H, I, rfl, q⟩
theorem op_eq : OpR X (compareOp .Eq) rEq := by
  intro pins s σ H x y v u Q I rx ry h
  obtain ⟨hs, q⟩ := h
  cases x with
  | non =>
    cases rx
    cases y with
    | non => cases ry; exact PySem.EqNone.eq_none_none (fin_bl I q (by simp))
    | bl j => cases ry; exact PySem.EqNone.eq_none_bool (fin_bl I q (by simp))
    | int j => obtain ⟨t', rfl⟩ := ry; exact PySem.EqNone.eq_none_int (fin_bl I q (by simp))
    | str j => obtain ⟨t', rfl⟩ := ry; exact PySem.EqNone.eq_none_str (fin_bl I q (by simp))
    | _ => exact absurd (show false = true from hs) Bool.false_ne_true
  | bl i =>
    cases rx
    cases y with
    | non => cases ry; exact PySem.EqNone.eq_bool_none (fin_bl I q (by simp))
    | bl j => cases ry; exact eq_bool (fin_bl I q dec_bl)
    | str j => obtain ⟨t', rfl⟩ := ry; exact PySem.EqMixed.eq_bool_str (fin_bl I q (by simp))
    | _ => exact absurd (show false = true from hs) Bool.false_ne_true
  | int i =>
    obtain ⟨t, rfl⟩ := rx
    cases y with
    | non => cases ry; exact PySem.EqNone.eq_int_none (fin_bl I q (by simp))
    | int j => obtain ⟨t', rfl⟩ := ry; exact eq_int (fin_bl I q dec_int)
    | str j => obtain ⟨t', rfl⟩ := ry; exact PySem.EqMixed.eq_int_str (fin_bl I q (by simp))
    | _ => exact absurd (show false = true from hs) Bool.false_ne_true
  | str i =>
    obtain ⟨t, rfl⟩ := rx
    cases y with
    | non => cases ry; exact PySem.EqNone.eq_str_none (fin_bl I q (by simp))
    | bl j => cases ry; exact PySem.EqMixed.eq_str_bool (fin_bl I q (by simp))
    | int j => obtain ⟨t', rfl⟩ := ry; exact PySem.EqMixed.eq_str_int (fin_bl I q (by simp))
    | str j => obtain ⟨t', rfl⟩ := ry; exact eq_str (fin_bl I q dec_str)
    | _ => exact absurd (show false = true from hs) Bool.false_ne_true
  | byt i =>
    obtain ⟨t, rfl⟩ := rx
    cases y with
    | byt j => obtain ⟨t', rfl⟩ := ry; exact PySem.W.eq_bytes (fin_bl I q dec_byt)
    | _ => exact absurd (show false = true from hs) Bool.false_ne_true
  | _ => cases y <;> exact absurd (show false = true from hs) Bool.false_ne_true
theorem op_ne : OpR X (compareOp .NotEq) rNe := by
  intro pins s σ H x y v u Q I rx ry h
  obtain ⟨hs, q⟩ := h
  cases x with
  | non =>
    cases rx
    cases y with
    | non => cases ry; exact PySem.EqNone.ne_none_none (fin_bl I q (by simp))
    | bl j => cases ry; exact PySem.EqNone.ne_none_bool (fin_bl I q (by simp))
    | int j => obtain ⟨t', rfl⟩ := ry; exact PySem.EqNone.ne_none_int (fin_bl I q (by simp))
    | str j => obtain ⟨t', rfl⟩ := ry; exact PySem.EqNone.ne_none_str (fin_bl I q (by simp))
    | _ => exact absurd (show false = true from hs) Bool.false_ne_true
  | bl i =>
    cases rx
    cases y with
    | non => cases ry; exact PySem.EqNone.ne_bool_none (fin_bl I q (by simp))
    | bl j => cases ry; exact ne_bool (fin_bl I q (congrArg not dec_bl))
    | str j => obtain ⟨t', rfl⟩ := ry; exact PySem.EqMixed.ne_bool_str (fin_bl I q (by simp))
    | _ => exact absurd (show false = true from hs) Bool.false_ne_true
  | int i =>
    obtain ⟨t, rfl⟩ := rx
    cases y with
    | non => cases ry; exact PySem.EqNone.ne_int_none (fin_bl I q (by simp))
    | int j => obtain ⟨t', rfl⟩ := ry; exact ne_int (fin_bl I q (congrArg not dec_int))
    | str j => obtain ⟨t', rfl⟩ := ry; exact PySem.EqMixed.ne_int_str (fin_bl I q (by simp))
    | _ => exact absurd (show false = true from hs) Bool.false_ne_true
  | str i =>
    obtain ⟨t, rfl⟩ := rx
    cases y with
    | non => cases ry; exact PySem.EqNone.ne_str_none (fin_bl I q (by simp))
    | bl j => cases ry; exact PySem.EqMixed.ne_str_bool (fin_bl I q (by simp))
    | int j => obtain ⟨t', rfl⟩ := ry; exact PySem.EqMixed.ne_str_int (fin_bl I q (by simp))
    | str j => obtain ⟨t', rfl⟩ := ry; exact ne_str (fin_bl I q (congrArg not dec_str))
    | _ => exact absurd (show false = true from hs) Bool.false_ne_true
  | byt i =>
    obtain ⟨t, rfl⟩ := rx
    cases y with
    | byt j => obtain ⟨t', rfl⟩ := ry; exact PySem.W.ne_bytes (fin_bl I q (congrArg not dec_byt))
    | _ => exact absurd (show false = true from hs) Bool.false_ne_true
  | _ => cases y <;> exact absurd (show false = true from hs) Bool.false_ne_true
theorem op_lt : OpR X (compareOp .Lt) (rI0 fun i j => .bl (decide (i < j))) := opB0 fun _ _ _ _ _ _ _ q => lt_int q
theorem op_le : OpR X (compareOp .LtE) (rI0 fun i j => .bl (decide (i ≤ j))) := opB0 fun _ _ _ _ _ _ _ q => le_int q
theorem op_gt : OpR X (compareOp .Gt) (rI0 fun i j => .bl (decide (j < i))) := opB0 fun _ _ _ _ _ _ _ q => gt_int q
theorem nomark (b : Expr) {op : CmpOp} (h : op ≠ .In := by decide) (h2 : op ≠ .NotIn := by decide) : behindInMarks op b = false := by
  have e1 : (op == CmpOp.In) = false := by cases op <;> first | rfl | exact absurd rfl h
  have e2 : (op == CmpOp.NotIn) = false := by cases op <;> first | rfl | exact absurd rfl h2
  cases b <;> simp [behindInMarks, e1, e2]
theorem pe_cmpR {op : CmpOp} {r : R2} (ho : OpR X (compareOp op) r) (ha : PE X a ta) (hb : PE X b tb) (hm : behindInMarks op b = false) : PE X (.Compare a [op] [b] pos) (tOp r ta tb) := by
  intro pins s σ H Q I h
  exact wpAny_Compare1 (binT ha hb I h fun v u s2 x y H2 I2 rx ry q => ho pins s2 σ H2 x y v u Q I2 rx ry q) hm
@[reducible] def tTest (t : TE) : TT := fun σ H Q => t σ H fun x H' => ∃ k, x = .bl k ∧ Q k H'
theorem pt_cmpR {op : CmpOp} {r : R2} (ho : OpR X (compareOp op) r) (ha : PE X a ta) (hb : PE X b tb) (hm : behindInMarks op b = false) : PT X (.Compare a [op] [b] pos) (tTest (tOp r ta tb)) := by
  intro pins s σ H Q I h
  refine wpAny_isTrue_Compare1 (thn (ha pins s σ H _ I h) fun v s1 ⟨x, H1, I1, r1, q1⟩ => thn (hb pins s1 σ H1 _ I1 q1) fun u s2 ⟨y, H2, I2, r2, q2⟩ =>
    thn (ho pins s2 σ H2 x y v u _ I2 r1 r2 q2) fun c s3 ⟨z, H3, I3, r3, k, e, q3⟩ => ?_) hm
  subst e
  cases r3
  exact wpAny_truthy_bool ⟨H3, I3, q3⟩
@[reducible] def tChain (r r' : R2) (ta tb tc : TE) : TE := fun σ H Q => ta σ H fun x H1 => tb σ H1 fun y H2 => r x y H2 fun z H3 => ∃ k, z = .bl k ∧
  (if k = true then tc σ H3 fun w' H4 => r' y w' H4 Q else Q (.bl false) H3)
theorem pt_chain {op op' : CmpOp} {r r' : R2} (ho : OpR X (compareOp op) r) (ho' : OpR X (compareOp op') r') (ha : PE X a ta) (hb : PE X b tb) (hc : PE X c tc)
    (hm : lastMarks [op, op'] [b, c] = false := by with_unfolding_all rfl) : PT X (.Compare a [op, op'] [b, c] pos) (tTest (tChain r r' ta tb tc)) := by
  intro pins s σ H Q I h
  refine isTrue_chain (thn (ha pins s σ H _ I h) fun v s1 ⟨x, H1, I1, r1, q1⟩ => test_link (thn (hb pins s1 σ H1 _ I1 q1) fun u s2 ⟨y, H2, I2, r2, q2⟩ =>
    thn (ho pins s2 σ H2 x y v u _ I2 r1 r2 q2) fun d s3 ⟨z, H3, I3, r3, k, e, q3⟩ => ?_)) hm
  subst e
  cases r3
  refine wpAny_truthy_bool ?_
  cases k with
  | false =>
    obtain ⟨k', e', q'⟩ := q3
    cases e'
    exact ite_ff ⟨H3, I3, q'⟩
  | true =>
    refine ite_tt (test_last (thn (hc pins s3 σ H3 _ I3 q3) fun w' s4 ⟨z', H4, I4, r4, q4⟩ => thn (ho' pins s4 σ H4 y z' u w' _ I4 r2 r4 q4) fun d' s5 ⟨z2, H5, I5, r5, k2, e2, q5⟩ => ?_))
    subst e2
    cases r5
    exact wpAny_truthy_bool ⟨H5, I5, q5⟩
theorem line63 : (sizeLine : Nat) < 2 ^ 63 := by rw [sizeLine_eq]; decide
theorem vals1 {x : V} {us : List Value} (r : Vals [x] us) : ∃ u, us = [u] ∧ RelV x u := by
  cases r with
  | cons r1 r2 => cases r2; exact ⟨_, rfl, r1⟩
theorem vals2 {x y : V} {us : List Value} (r : Vals [x, y] us) : ∃ u w', us = [u, w'] ∧ RelV x u ∧ RelV y w' := by
  cases r with
  | cons r1 r2 =>
    cases r2 with
    | cons r3 r4 => cases r4; exact ⟨_, _, rfl, r1, r3⟩
theorem call_abs : CallR X (.builtin "abs") (fun xs H Q => ∃ i, xs = [.int i] ∧ Q (.int (if i < 0 then -i else i)) H) := by
  intro pins s σ H xs us Q I r h
  obtain ⟨i, rfl, q⟩ := h
  obtain ⟨u, rfl, t, rfl⟩ := vals1 r
  exact call_abs_int fun u tk => ⟨.int (if i < 0 then -i else i), H, I.tok _, ⟨_, rfl⟩, q⟩
theorem call_max2 (hc : X.calm = true) : CallR X (.builtin "max") (fun xs H Q => ∃ i j, xs = [.int i, .int j] ∧ Q (.int (if j > i then j else i)) H) := by
  intro pins s σ H xs us Q I r h
  obtain ⟨i, j, rfl, q⟩ := h
  obtain ⟨u, w', rfl, ⟨t, rfl⟩, ⟨t', rfl⟩⟩ := vals2 r
  refine max_two_ints (I.ok.hd hc) fun h' tk k => ⟨_, H, I.kept k, ?_, q⟩
  by_cases hj : j > i
  · rw [if_pos hj, if_pos hj]; exact ⟨_, rfl⟩
  · rw [if_neg hj, if_neg hj]; exact ⟨_, rfl⟩
end
end L2
namespace L2
open PySem PySem.Spec PyProof.Rows
structure ObjM (h : Heap) (x dx C : Addr) (mA : Str → Option Value) : Prop where
  obj : h.get? x = some (PySem.W.instObj C dx)
  ns : h.Ns1 dx mA
  ne : dx ≠ x
theorem lookIn_ns {h : Heap} {dx : Addr} {mA : Str → Option Value} (n : h.Ns1 dx mA) : ∃ od, h.get? dx = some od ∧ ∀ name, PySem.W.lookIn name od = some (mA name) := by
  obtain ⟨o, es, ep, ho, hd, hk, _, hm⟩ := n
  refine ⟨o, ho, fun name => ?_⟩
  have e := hm name
  unfold nsFind findBy at e
  rw [← Array.find?_toList] at e
  unfold PySem.W.lookIn
  rw [hd]
  dsimp only
  split
  · rename_i y q
    rw [q] at e
    exact congrArg some e
  · rename_i q
    rw [q] at e
    have a : es.toList.any (·.refKey) = false := by
      rw [List.any_eq_false]
      intro y hy
      obtain ⟨z, t, hkey⟩ := hk y (Array.mem_toList_iff.mp hy)
      simp [DictEntry.refKey, hkey]
    have a' : ¬ es.toList.any (·.refKey) = true := by rw [a]; exact Bool.false_ne_true
    rw [if_neg a']
    exact congrArg some e
theorem ObjM.look {h : Heap} {x dx C : Addr} {mA : Str → Option Value} (I : ObjM h x dx C mA) : ∃ od, PySem.W.InstAt h x (PySem.W.instObj C dx) C (some od) ∧ ∀ name, PySem.W.lookIn name od = some (mA name) :=
  let ⟨od, ho, hl⟩ := lookIn_ns I.ns
  ⟨od, ⟨I.obj, rfl, rfl, ho⟩, hl⟩
section
variable {prog : Program} {w : World} {A : Around} {E : Value → Shared → Prop} {s : Shared} {K : PySem.W.Frag} {x dx C f : Addr} {mA : Str → Option Value} {name : Str} {v : Value}
theorem get_map {expr : Bool} {Q : Value → Shared → Prop} (X : K.In s.heap) (I : ObjM s.heap x dx C mA) (hg : PySem.W.plainGet K C name = true) (hh : PySem.W.hasDictIn K C = true)
    (ha : PySem.W.findIn K (.ref C) name = some none) (hv : mA name = some v) (hv' : PySem.W.handedIn v = true) (h : Q v { s with toks := s.toks + 1 }) :
    wpAny (model prog w) A (getAttr (.ref x) name expr) Q E s := by
  obtain ⟨od, J, hl⟩ := I.look
  exact PySem.W.get_value X J (PySem.W.plainGet_of hg).1 (PySem.W.findObj_own hh ha rfl (by rw [hl, hv])) hv' h
theorem get_meth {pl : Sem Bool} {Q : Value × List Value → Shared → Prop} (X : K.In s.heap) (I : ObjM s.heap x dx C mA) (hg : PySem.W.plainGet K C name = true)
    (hf : PySem.W.findIn K (.ref C) name = some (some (.ref f))) (ht : PySem.W.isFn K (.ref f) = true) (hv : mA name = none) (h : Q (.ref f, [.ref x]) s) :
    wpAny (model prog w) A (getMethod (.ref x) name pl) Q E s := by
  obtain ⟨od, J, hl⟩ := I.look
  exact PySem.W.method_fn X J (PySem.W.plainGet_of hg).1 (PySem.W.plainGet_of hg).2 hf (beq_iff_eq.mp ht) (by show (PySem.W.lookIn name od).map (·.isSome) = some false; rw [hl, hv]; rfl) h
theorem set_map {ns : List Str} {Q : Unit → Shared → Prop} (X : K.In s.heap) (I : ObjM s.heap x dx C mA)
    (hs : PySem.W.findIn K (.ref C) "__setattr__" = some (some (.builtin "object.__setattr__"))) (hp : PySem.W.plainOver K C = true) (ht : PySem.W.takerIn K C name = some none) (hh : PySem.W.hasDictIn K C = true)
    (hw : PySem.Within mA ns) (hsz : ns.length ≤ sizeLine)
    (h : ∀ h', ObjM h' x dx C (fun y => if y = name then some v else mA y) → Heap.SameBut dx s.heap h' → Q () { s with heap := h', toks := s.toks + 2 }) :
    wpAny (model prog w) A (setAttr (.ref x) name v) Q E s := by
  obtain ⟨od, J, hl⟩ := I.look
  refine PySem.W.set_plain X J hs (PySem.W.osa_open (s := { s with toks := s.toks + 1 }) (r := none) X J hp ht fun b => ?_)
  obtain ⟨cd, hc, hd'⟩ := PySem.W.any_some hh
  have hx : s.heap.get? x = some ⟨.ref C, some dx, .plain, #[]⟩ := I.obj
  refine wpAny_bind (wpAny_pure (wpAny_bind (wpAny_bind (wpAny_loadPart hx (wpAny_bind (PySem.W.Looks.here (s := { s with toks := s.toks + 1 }) (PySem.W.looks_clsIn X hc) ?_))))))
  rw [hd']
  refine wpAny_pure (a := some dx) (wpAny_bind (wpAny_pure (wpAny_bind ?_)))
  refine wpAny_nsSet1 (s := { s with toks := s.toks + 1 }) I.ns fun h' hn2 hs2 => ?_
  obtain ⟨oD, esD, epD, hoD, hdD, hcD⟩ := hn2.count (PySem.Within.cons name v hw)
  refine wpAny_bind (wpAny_lookBehind hoD (by rw [hdD]; exact pastItsLine_dict (Nat.le_trans hcD (by rw [List.length_cons]; (first | lia | omega)))) ?_)
  exact wpAny_pure (h _ ⟨(hs2.2 _ (Ne.symm I.ne)).trans I.obj, hn2, I.ne⟩ hs2)
theorem make_map {R : Result → Shared → Prop} {vs : List Value} {kw : List (Str × Value)} (X : K.In s.heap) (hm : PySem.W.makesIn K C = true)
    (hi : PySem.W.findIn K (.ref C) "__init__" = some (some (.ref f))) (hf : PySem.W.typeIn K (.ref f) = some (.type "function"))
    (h : codeAny (model prog w) (A.under (.builtin "type.__call__" ⟨.ref C :: vs, kw⟩)) (.call (.ref f) ⟨.ref (s.heap.objs.size + 1) :: vs, kw⟩) (PySem.W.InitBack (s.heap.objs.size + 1) R)
      { s with heap := (s.heap.push PySem.W.emptyDict).push (PySem.W.instObj C s.heap.objs.size) }) :
    codeAny (model prog w) A (.call (.ref C) ⟨vs, kw⟩) R s := by
  obtain ⟨hh, g, d, t, os⟩ := s
  exact PySem.W.make_core (PySem.W.makes_of X hm) (PySem.W.looks_findIn X hi) (fun self => PySem.W.bind_fn X self hf) (.inl rfl) h
end
def putF (f : Str) (v : V) : List (Str × V) → List (Str × V)
  | [] => [(f, v)]
  | (g, x) :: r => if g = f then (g, v) :: r else (g, x) :: putF f v r
theorem lookup_putF (f g : Str) (v : V) : ∀ fs : List (Str × V), (putF f v fs).lookup g = if g = f then some v else fs.lookup g
  | [] => by
    show List.lookup g [(f, v)] = _
    by_cases h : g = f
    · have hb : (g == f) = true := beq_iff_eq.mpr h
      simp only [List.lookup, hb, if_pos h]
    · have hb : (g == f) = false := beq_eq_false_iff_ne.mpr h
      simp only [List.lookup, hb, if_neg h]
  | (k, x) :: r => by
    have ih := lookup_putF f g v r
    rw [show putF f v ((k, x) :: r) = (if k = f then (k, v) :: r else (k, x) :: putF f v r) from rfl]
    by_cases hk : k = f
    · rw [if_pos hk]
      by_cases h : g = k
      · have hb : (g == k) = true := beq_iff_eq.mpr h
        simp only [List.lookup, hb, if_pos (h.trans hk)]
      · have hb : (g == k) = false := beq_eq_false_iff_ne.mpr h
        simp only [List.lookup, hb, if_neg (fun e : g = f => h (e.trans hk.symm))]
    · rw [if_neg hk]
      by_cases h : g = k
      · have hb : (g == k) = true := beq_iff_eq.mpr h
        simp only [List.lookup, hb, if_neg (fun e : g = f => hk (h.symm.trans e))]
      · have hb : (g == k) = false := beq_eq_false_iff_ne.mpr h
        simp only [List.lookup, hb]
        exact ih
theorem keys_putF (f : Str) (v : V) : ∀ fs : List (Str × V), f ∈ (putF f v fs).map (·.1) ∧ ∀ g, g ∈ fs.map (·.1) → g ∈ (putF f v fs).map (·.1)
  | [] => ⟨by simp [putF], fun g h => by simp at h⟩
  | (k, x) :: r => by
    obtain ⟨i1, i2⟩ := keys_putF f v r
    rw [show putF f v ((k, x) :: r) = (if k = f then (k, v) :: r else (k, x) :: putF f v r) from rfl]
    by_cases hk : k = f
    · rw [if_pos hk]
      subst hk
      exact ⟨by simp, fun g h => by simpa using h⟩
    · rw [if_neg hk]
      refine ⟨?_, fun g h => ?_⟩
      · rw [List.map_cons]
        exact List.mem_cons_of_mem _ i1
      · rw [List.map_cons] at h ⊢
        rcases List.mem_cons.mp h with e | e
        · exact List.mem_cons.mpr (.inl e)
        · exact List.mem_cons_of_mem _ (i2 g e)
theorem length_putF (f : Str) (v : V) : ∀ fs : List (Str × V), (putF f v fs).length ≤ fs.length + 1
  | [] => by simp [putF]
  | (k, x) :: r => by
    have ih := length_putF f v r
    rw [show putF f v ((k, x) :: r) = (if k = f then (k, v) :: r else (k, x) :: putF f v r) from rfl]
    by_cases hk : k = f
    · rw [if_pos hk, List.length_cons, List.length_cons]; (first | lia | omega)
    · rw [if_neg hk, List.length_cons, List.length_cons]; (first | lia | omega)
theorem RelO.some_of {v : V} {o : Option Value} (r : RelO (some v) o) : ∃ u, o = some u ∧ RelV v u := by
  cases o with
  | none => exact (show False from r).elim
  | some u => exact ⟨u, rfl, r⟩
theorem RelO.none_of {o : Option Value} (r : RelO none o) : o = none := by
  cases o with
  | none => rfl
  | some u => exact (show False from r).elim
theorem handed_of {v : V} {u : Value} (r : RelV v u) : PySem.W.handedIn u = true := by
  cases v with
  | non => cases (show u = Value.none from r); rfl
  | bl b => cases (show u = Value.bool b from r); rfl
  | int i => obtain ⟨t, e⟩ := (show ∃ t, u = Value.int i t from r); cases e; rfl
  | str x => obtain ⟨t, e⟩ := (show ∃ t, u = Value.str x t from r); cases e; rfl
  | byt b => obtain ⟨t, e⟩ := (show ∃ t, u = Value.bytes b t from r); cases e; rfl
  | flt b => obtain ⟨t, e⟩ := (show ∃ t, u = Value.float b t from r); cases e; rfl
  | ref a => cases (show u = Value.ref a from r); rfl
  | ty n => cases (show u = Value.type n from r); rfl
section
variable {P : Program} {w : World} {H H' : Hp} {h h' : Heap} {a C dx : Addr} {fs fs' : List (Str × V)}
theorem ins_get (hok : HOk P w H h) (e : H a = some (.ins C dx fs)) : ∃ mA, ObjM h a dx C mA ∧ (∀ f, RelO (fs.lookup f) (mA f)) ∧ PySem.Within mA (fs.map (·.1)) ∧ fs.length ≤ 1000 ∧ H dx = some (.own a) := by
  obtain ⟨d, z, ne, ob, mA, n, r, q⟩ := (show ObjOk P w H h a (.ins C dx fs) from hok a _ e)
  exact ⟨mA, ⟨ob, n, ne⟩, r, q, z, d⟩
end
structure Cls (K : PySem.W.Frag) (C : Addr) : Prop where
  pg : PySem.W.plainGet K C Str.empty = true
  hd : PySem.W.hasDictIn K C = true
  po : PySem.W.plainOver K C = true
  sa : PySem.W.findIn K (.ref C) "__setattr__" = some (some (.builtin "object.__setattr__"))
theorem Cls.get {K : PySem.W.Frag} {C : Addr} (c : Cls K C) (f : Str) : PySem.W.plainGet K C f = true := c.pg
def NoAttr (K : PySem.W.Frag) (C : Addr) (f : Str) : Prop := PySem.W.findIn K (.ref C) f = some none
theorem NoAttr.taker {K : PySem.W.Frag} {C : Addr} {f : Str} (n : NoAttr K C f) : PySem.W.takerIn K C f = some none := by
  unfold PySem.W.takerIn
  rw [show PySem.W.findIn K (.ref C) f = some none from n]
  rfl
structure Meth (K : PySem.W.Frag) (C : Addr) (m : Str) (f : Addr) : Prop where
  at_ : PySem.W.findIn K (.ref C) m = some (some (.ref f))
  fn : PySem.W.isFn K (.ref f) = true
  kp : PySem.W.keepIn K (.ref f) = true
section
variable {X : Cx} {pins : List (Addr × Obj)} {σ : St} {H : Hp} {s : Shared} {a C dx : Addr} {fs : List (Str × V)} {f : Str} {v : V} {A : Around} {E : Value → Shared → Prop}
theorem getattr_ok {b : Bool} {Q : Value → Shared → Prop} (I : Inv X pins σ H s) (e : H a = some (.ins C dx fs)) (c : Cls X.K C) (n : NoAttr X.K C f) (l : fs.lookup f = some v)
    (h : ∀ u s', Inv X pins σ H s' → RelV v u → Q u s') : wpAny (model X.prog X.w) A (getAttr (.ref a) f b) Q E s := by
  obtain ⟨mA, O, r, _, _, _⟩ := ins_get I.hok e
  obtain ⟨u, hu, ru⟩ := RelO.some_of (v := v) (o := mA f) (by rw [← l]; exact r f)
  exact get_map I.kIn O (c.get f) c.hd n hu (handed_of ru) (h u _ (I.tok _) ru)
theorem getmeth_ok {m : Str} {g : Addr} {pl : Sem Bool} {Q : Value × List Value → Shared → Prop} (I : Inv X pins σ H s) (e : H a = some (.ins C dx fs)) (c : Cls X.K C) (k : Meth X.K C m g) (l : fs.lookup m = none)
    (h : Q (.ref g, [.ref a]) s) : wpAny (model X.prog X.w) A (getMethod (.ref a) m pl) Q E s := by
  obtain ⟨mA, O, r, _, _, _⟩ := ins_get I.hok e
  have hn : mA m = none := RelO.none_of (by rw [← l]; exact r m)
  exact get_meth I.kIn O (c.get m) k.at_ k.fn hn h
theorem setattr_ok {y : V} {u : Value} {Q : Unit → Shared → Prop} (I : Inv X pins σ H s) (e : H a = some (.ins C dx fs)) (c : Cls X.K C) (n : NoAttr X.K C f) (hl : fs.length < 1000) (ry : RelV y u)
    (h : ∀ s', Inv X pins σ (upd H a (.ins C dx (putF f y fs))) s' → Q () s') : wpAny (model X.prog X.w) A (setAttr (.ref a) f u) Q E s := by
  obtain ⟨mA, O, r, wi, _, ho⟩ := ins_get I.hok e
  have hz : (fs.map (·.1)).length ≤ sizeLine := by rw [List.length_map, sizeLine_eq]; (first | lia | omega)
  refine set_map I.kIn O c.sa c.po n.taker c.hd wi hz fun h' O' sb => h _ ?_
  have hd : ∃ o, h'.get? dx = some o := let ⟨o, _, _, e', _⟩ := O'.ns; ⟨o, e'⟩
  refine I.write (x := a) (e := dx) (by rw [e]; exact True.intro) (.inr ho) (fun b q hb z => (sb.2 b hb).trans z) hd ?_
  refine ⟨by rw [upd_ne O.ne]; exact ho, ?_, O.ne, O'.obj, _, O'.ns, fun g => ?_, fun g hg => ?_⟩
  · have := length_putF f y fs; (first | lia | omega)
  · show RelO ((putF f y fs).lookup g) (if g = f then some u else mA g)
    rw [lookup_putF]
    by_cases q : g = f
    · rw [if_pos q, if_pos q]; exact ry
    · rw [if_neg q, if_neg q]; exact r g
  · by_cases q : g = f
    · rw [q]; exact (keys_putF f y fs).1
    · refine (keys_putF f y fs).2 g (wi g fun z => hg ?_)
      show (if g = f then some u else mA g) = none
      rw [if_neg q]; exact z
theorem Inv.made (I : Inv X pins σ H s) : Inv X pins σ (upd (upd H s.heap.objs.size (.own (s.heap.objs.size + 1))) (s.heap.objs.size + 1) (.ins C s.heap.objs.size []))
    { s with heap := (s.heap.push PySem.W.emptyDict).push (PySem.W.instObj C s.heap.objs.size) } := by
  have e1 : (s.heap.push PySem.W.emptyDict).get? s.heap.objs.size = some PySem.W.emptyDict := Heap.get?_push_size s.heap rfl
  have e2 : ((s.heap.push PySem.W.emptyDict).push (PySem.W.instObj C s.heap.objs.size)).get? (s.heap.objs.size + 1) = some (PySem.W.instObj C s.heap.objs.size) := by
    have := Heap.get?_push_size (s.heap.push PySem.W.emptyDict) (o := PySem.W.instObj C s.heap.objs.size) rfl
    rwa [Heap.size_push] at this
  have e3 : (s.heap.push PySem.W.emptyDict).Ns s.heap.objs.size (fun _ => none) := ⟨PySem.W.emptyDict, #[], _, e1, rfl, (fun e he => absurd he (by simp)), fun _ => rfl⟩
  have I1 := I.laid (a := s.heap.objs.size) (o := .own (s.heap.objs.size + 1)) (h' := s.heap.push PySem.W.emptyDict) (t' := s.toks) (fun b u q => Heap.get?_push_of_some _ q) (Nat.le_refl _) ⟨_, e1⟩
  refine I1.laid (a := s.heap.objs.size + 1) (o := .ins C s.heap.objs.size []) (t' := s.toks) (fun b u q => Heap.get?_push_of_some _ q) (Nat.le_of_eq (Heap.size_push _ _)) ?_
  have ne : s.heap.objs.size ≠ s.heap.objs.size + 1 := Nat.ne_of_lt (Nat.lt_succ_self _)
  refine ⟨by rw [upd_ne ne, upd_same], Nat.zero_le _, ne, e2, fun _ => none, (Heap.Ns1.of_empty e3).at fun o q => Heap.get?_push_of_some _ q, fun _ => True.intro, fun y hy => absurd rfl hy⟩
theorem attr_of {prog : Program} {w : World} {env : Env} {e : Expr} {f : Str} {pos : Pos} {s : Shared} {Q : Value → Shared → Prop} (hb : attributeBase e f env (eval e env) = eval e env)
    (h : wpAny (model prog w) A (eval e env) (fun o s₁ => wpAny (model prog w) A (getAttr o f true) Q E s₁) E s) : wpAny (model prog w) A (eval (.Attribute e f pos) env) Q E s :=
  Attribute_any_ h (by rw [arm_eval_Attribute, hb])
end
def tFld (K : PySem.W.Frag) (ta : TE) (f : Str) : TE := fun σ H Q => ta σ H fun x H1 => ∃ a C dx fs v, x = .ref a ∧ H1 a = some (.ins C dx fs) ∧ Cls K C ∧ NoAttr K C f ∧ fs.lookup f = some v ∧ Q v H1
@[reducible] def sFld (K : PySem.W.Frag) (ta tv : TE) (f : Str) : TS := fun D σ H => tv σ H fun y H1 => ta σ H1 fun x H2 => ∃ a C dx fs, x = .ref a ∧ H2 a = some (.ins C dx fs) ∧ Cls K C ∧ NoAttr K C f ∧ fs.length < 1000 ∧
  D.nx σ (upd H2 a (.ins C dx (putF f y fs)))
def InOp (X : Cx) (op : Operator) (rd : V → V → Hp → VK → Prop) : Prop :=
  ∀ (pins : List (Addr × Obj)) (s : Shared) (σ : St) (H : Hp) (x y : V) (u v : Value) (Q : VK), Inv X pins σ H s → RelV x u → RelV y v → rd x y H Q → wpAny (model X.prog X.w) X.A (inplaceOp op u v) (EP X pins σ Q) X.xe s
@[reducible] def sFldAug (K : PySem.W.Frag) (ta tv : TE) (rd : V → V → Hp → VK → Prop) (f : Str) : TS := fun D σ H => ta σ H fun x H1 => ∃ a C dx fs v, x = .ref a ∧ H1 a = some (.ins C dx fs) ∧ Cls K C ∧ NoAttr K C f ∧ fs.lookup f = some v ∧
  tv σ H1 fun y H2 => rd v y H2 fun z H3 => ∃ dx' fs', H3 a = some (.ins C dx' fs') ∧ fs'.length < 1000 ∧ D.nx σ (upd H3 a (.ins C dx' (putF f z fs')))
section
variable {X : Cx} {o e value : Expr} {f : Str} {pos pos' tpos : Pos} {ta tv : TE}
theorem pe_fld (he : PE X e ta) (hb : attributeBase e f X.env (eval e X.env) = eval e X.env) : PE X (.Attribute e f pos) (tFld X.K ta f) := by
  intro pins s σ H Q I h
  refine attr_of hb (thn (he pins s σ H _ I h) fun u s1 ⟨x, H1, I1, rx, a, C, dx, fs, v, ex, ea, c, n, l, q⟩ => ?_)
  subst ex
  obtain rfl : u = Value.ref a := rx
  exact getattr_ok I1 ea c n l fun u' s2 I2 ru => ⟨v, H1, I2, ru, q⟩
theorem ps_fld (ha : PE X o ta) (hv : PE X value tv) (hs : swapsWith value (some (.Attribute o f pos')) pos.line X.env = pure false) : PS X (.Assign [.Attribute o f pos'] value pos) (sFld X.K ta tv f) := by
  intro pins s σ H D I h
  refine plainObj_wpAny_Assign_Attribute (thn (hv pins s σ H _ I h) fun u s1 ⟨y, H1, I1, ry, q⟩ => thn (ha pins s1 σ H1 _ I1 q) fun ov s2 ⟨x, H2, I2, rx, a, C, dx, fs, ex, ea, c, n, l, q2⟩ => ?_) hs
  subst ex
  obtain rfl : ov = Value.ref a := rx
  exact setattr_ok I2 ea c n l ry fun s3 I3 => ⟨σ, _, I3, q2⟩
theorem ps_fldaug {op : Operator} {rd : V → V → Hp → VK → Prop} (ha : PE X o ta) (hv : PE X value tv) (hop : InOp X op rd) : PS X (.AugAssign (.Attribute o f tpos) op value pos) (sFldAug X.K ta tv rd f) := by
  intro pins s σ H D I h
  refine wpAny_AugAssign_AttributeAny (thn (ha pins s σ H _ I h) fun ov s1 ⟨x, H1, I1, rx, a, C, dx, fs, v, ex, ea, c, n, l, q⟩ => ?_)
  subst ex
  obtain rfl : ov = Value.ref a := rx
  refine getattr_ok I1 ea c n l fun u s2 I2 ru => thn (hv pins s2 σ H1 _ I2 q) fun w3 s3 ⟨y, H2, I3, ry, q3⟩ => thn (hop pins s3 σ H2 v y u w3 _ I3 ru ry q3) fun w4 s4 ⟨z, H3, I4, rz, dx', fs', ea', l', q4⟩ => ?_
  exact setattr_ok I4 ea' c n l' rz fun s5 I5 => ⟨σ, _, I5, q4⟩
def rAdd : V → V → Hp → VK → Prop := fun x y H Q => ∃ i j, x = .int i ∧ y = .int j ∧ Q (.int (i + j)) H
theorem in_add : InOp X .Add rAdd := by
  rintro pins s σ H x y u v Q I rx ry ⟨i, j, rfl, rfl, q⟩
  obtain ⟨t, rfl⟩ := (show ∃ t, u = Value.int i t from rx)
  obtain ⟨t', rfl⟩ := (show ∃ t', v = Value.int j t' from ry)
  exact PyProof.Rows.iadd_int ⟨.int (i + j), H, I.tok _, ⟨_, rfl⟩, q⟩
theorem methcall_of {pl : Sem Bool} {m : Str} {apos : Pos} {args : List Expr} {pins : List (Addr × Obj)} {s : Shared} {σ : St} {H : Hp} {Q : Value → Shared → Prop} {te : TE} (he : PE X e te) (I : Inv X pins σ H s)
    (h : te σ H fun x H1 => ∃ a C dx fs g, x = .ref a ∧ H1 a = some (.ins C dx fs) ∧ Cls X.K C ∧ Meth X.K C m g ∧ fs.lookup m = none ∧
      ∀ s1, Inv X pins σ H1 s1 → wpAny (model X.prog X.w) X.A (callWith pos (.ref g) [.ref a] (backTo pos (starEach args X.env)) (backToKw pos (keywordEach [] X.env))) Q X.xe s1)
    (ht : eval (.Call (.Attribute e m apos) args [] pos) X.env = (do
      let ov ← eval e X.env
      standAt apos.atName
      let (f, first) ← holding [ov] (getMethod ov m pl)
      callWith pos f first (backTo pos (starEach args X.env)) (backToKw pos (keywordEach [] X.env)))) :
    wpAny (model X.prog X.w) X.A (eval (.Call (.Attribute e m apos) args [] pos) X.env) Q X.xe s := by
  refine PySem.W.methodCall_KW (pl := pl) (thn (he pins s σ H _ I h) fun u s1 ⟨x, H1, I1, rx, a, C, dx, fs, g, ex, ea, c, k, l, q⟩ => ?_) ht
  subst ex
  obtain rfl : u = Value.ref a := rx
  exact getmeth_ok I1 ea c k l (q s1 I1)
end
section
variable {X : Cx} {pins : List (Addr × Obj)} {σ : St} {H : Hp} {s : Shared} {A : Around} {E : Value → Shared → Prop} {Q : Value → Shared → Prop} {c : Value} {b : Bool}
end
end L2
namespace L2
open PySem PySem.Spec PyProof.Rows
structure Room (k : Nat) (A : Around) : Prop where
  hd : A.handled = none
  dp : A.depth + 3 * k + 5 < recursionLimit
  un : A.units + 16 * k + 200 < cLine
theorem Room.mono {j k : Nat} {A : Around} (r : Room k A) (h : j ≤ k) : Room j A := ⟨r.hd, by have := r.dp; (first | lia | omega), by have := r.un; (first | lia | omega)⟩
theorem Room.deeper {k : Nat} {A : Around} (r : Room (k + 1) A) (env : Env) : Room k (A.deeper env) :=
  ⟨r.hd, by have := r.dp; show A.depth + 1 + 3 * k + 5 < _; (first | lia | omega), by have := r.un; show A.units + 3 + 16 * k + 200 < _; (first | lia | omega)⟩
theorem make_depth {A : Around} {C : Addr} {us : List Value} {kw : List (Str × Value)} : (A.under (.builtin "type.__call__" ⟨.ref C :: us, kw⟩)).depth = A.depth + 1 := by
  first | rfl | simp [Around.under, Code.weight, Code.isCreation, Code.isGuard, Code.isCaller, Code.frames, Code.isFrame, guardIds]
theorem make_units {A : Around} {C : Addr} {us : List Value} {kw : List (Str × Value)} : (A.under (.builtin "type.__call__" ⟨.ref C :: us, kw⟩)).units = A.units + 1 := by
  first | rfl | simp [Around.under, Code.cUnits, Code.frames, Code.isFrame]
theorem Room.make {k : Nat} {A : Around} (r : Room (k + 1) A) (C : Addr) (us : List Value) (kw : List (Str × Value)) : Room k (A.under (.builtin "type.__call__" ⟨.ref C :: us, kw⟩)) :=
  ⟨r.hd, by have := r.dp; rw [make_depth]; (first | lia | omega), by have := r.un; rw [make_units]; (first | lia | omega)⟩
theorem Room.depth {k : Nat} {A : Around} (r : Room k A) : A.depth < recursionLimit := by have := r.dp; (first | lia | omega)
@[reducible] def tNil : TA := fun _ H Q => Q [] H
@[reducible] def tCons (ta : TE) (tr : TA) : TA := fun σ H Q => ta σ H fun x H1 => tr σ H1 fun xs H2 => Q (x :: xs) H2
section
variable {X : Cx} {e : Expr} {es : List Expr} {te : TE} {t : TA} {pos : Pos}
theorem pa_nil : PA X [] tNil := fun _ _ _ _ H Q I h => Calls.spliced_nil ⟨[], H, I, .nil, h⟩
theorem pa_cons (ha : PE X e te) (hr : PA X es t) (hs : starEach (e :: es) X.env = (false, eval e X.env) :: starEach es X.env := by rfl) : PA X (e :: es) (tCons te t) := by
  intro pos pins s σ H Q I h
  rw [hs]
  show wpAny _ _ (spliced ((false, eval e X.env) :: backTo pos (starEach es X.env))) _ _ s
  refine Calls.spliced_cons (thn (ha pins s σ H _ I h) fun u s1 ⟨x, H1, I1, r1, q1⟩ => ?_)
  exact thn (hr pos pins s1 σ H1 _ I1 q1) fun us s2 ⟨xs, H2, I2, r2, q2⟩ => ⟨x :: xs, H2, I2, .cons r1 r2, q2⟩
@[reducible] def tTup (t : TA) : TE := fun σ H Q => t σ H fun xs H1 => xs.length ≤ sizeLine ∧ ∀ p, H1 p = none → Q (.ref p) (upd H1 p (.tup xs))
@[reducible] def tLst (t : TA) : TE := fun σ H Q => t σ H fun xs H1 => xs.length ≤ sizeLine ∧ ∀ p, H1 p = none → Q (.ref p) (upd H1 p (.lst xs))
theorem pe_tup {x1} (h : PA X es t) : PE X (.Tuple es x1 pos) (tTup t) := by
  intro pins s σ H Q I hq
  refine wpAny_Tuple_spliced (thn (h pos pins s σ H _ I hq) fun us s1 ⟨xs, H1, I1, r, z, q⟩ => ⟨by rw [← r.length]; exact z, ?_⟩)
  have hf : H1 s1.heap.objs.size = none := I1.hok.fresh (Nat.le_refl _)
  refine ⟨.ref s1.heap.objs.size, upd H1 s1.heap.objs.size (.tup xs), I1.laid (t' := s1.toks) (fun b u e => Heap.get?_push_of_some _ e) (Nat.le_refl _) ?_, rfl, q _ hf⟩
  exact ⟨z, us, r, ⟨_, Heap.get?_push_size _ rfl, rfl, _, rfl⟩⟩
theorem pe_lst (h : PA X es t) : PE X (.List es pos) (tLst t) := by
  intro pins s σ H Q I hq
  refine wpAny_List_spliced (thn (h pos pins s σ H _ I hq) fun us s1 ⟨xs, H1, I1, r, z, q⟩ => ⟨by rw [← r.length]; exact z, ?_⟩)
  have hf : H1 s1.heap.objs.size = none := I1.hok.fresh (Nat.le_refl _)
  refine ⟨.ref s1.heap.objs.size, upd H1 s1.heap.objs.size (.lst xs), I1.laid (t' := s1.toks) (fun b u e => Heap.get?_push_of_some _ e) (Nat.le_refl _) ?_, rfl, q _ hf⟩
  exact ⟨z, us, 0, r, Heap.get?_push_size _ rfl⟩
end
abbrev Sp := List V → Hp → VK → XK → Prop
abbrev CXT := List Env → Hp → Shared → XK → Value → Shared → Prop
structure Env0 (P : Program) (w : World) (K : PySem.W.Frag) (mg : Str → Option Value) (base : Heap) (A : Around) (outer : List Env) (s : Shared) (H : Hp) : Prop where
  frames : A.frames = some outer
  mod : Mod K mg base
  bs : ∀ b o, base.get? b = some o → s.heap.get? b = some o ∧ H b = none
  bsz : base.objs.size ≤ s.heap.objs.size
  funs : s.heap.FunFrames base outer
  frf : ∀ b ∈ frs outer, H b = none
  hok : HOk P w H s.heap
  bare : AllBare s.gens
def CE (outer : List Env) (P : Program) (w : World) (H : Hp) (s : Shared) (Q : VK) (u : Value) (s' : Shared) : Prop :=
  ∃ v H', s'.os = s.os ∧ AllBare s'.gens ∧ Un (frs outer) [] H H' s.heap s'.heap ∧ HOk P w H' s'.heap ∧ RelV v u ∧ Q v H'
def CR (CX : CXT) (outer : List Env) (P : Program) (w : World) (H : Hp) (s : Shared) (Q : VK) (E : XK) (r : Result) (s' : Shared) : Prop :=
  match r with
  | .ok (.ret u) => CE outer P w H s Q u s'
  | .ok _ => False
  | .error e => CX outer H s E e s'
structure FnOk (P : Program) (w : World) (K : PySem.W.Frag) (mg : Str → Option Value) (base : Heap) (CX : CXT) (k : Nat) (f : Addr) (fd : FuncData) (ps : List Str) (sp : Sp) : Prop where
  len : ∀ vs H Q E, sp vs H Q E → vs.length = ps.length
  run : ∀ (A : Around) (outer : List Env) (s : Shared) (H : Hp) (args : Args) (us : List Value) (vs : List V) (Q : VK) (E : XK), Room k A → Env0 P w K mg base A outer s H → BindsTo s fd args (ps.zip us) → Vals vs us → sp vs H Q E →
    codeAny (model P w) A (.call (.ref f) args) (CR CX outer P w H s Q E) s
theorem FnOk.mono {P : Program} {w : World} {K : PySem.W.Frag} {mg : Str → Option Value} {base : Heap} {CX : CXT} {j k : Nat} {f : Addr} {fd : FuncData} {ps : List Str} {sp : Sp} (F : FnOk P w K mg base CX j f fd ps sp) (h : j ≤ k) :
    FnOk P w K mg base CX k f fd ps sp := ⟨F.len, fun A outer s H args us vs Q E hr => F.run A outer s H args us vs Q E (hr.mono h)⟩
theorem Env0.make {P : Program} {w : World} {K : PySem.W.Frag} {mg : Str → Option Value} {base : Heap} {A : Around} {outer : List Env} {s : Shared} {H : Hp} (e : Env0 P w K mg base A outer s H) (C : Addr) (us : List Value) (kw : List (Str × Value)) :
    Env0 P w K mg base (A.under (.builtin "type.__call__" ⟨.ref C :: us, kw⟩)) outer s H := ⟨by first | exact e.frames | (simpa [Around.under, Code.envs, Code.isFrame, pushEnvs] using e.frames), e.mod, e.bs, e.bsz, e.funs, e.frf, e.hok, e.bare⟩
section
variable {X : Cx} {pins : List (Addr × Obj)} {σ : St} {H : Hp} {s s' : Shared}
theorem Inv.env0 (I : Inv X pins σ H s) : Env0 X.prog X.w X.K X.mg X.base X.A X.stack s H :=
  ⟨I.ok.frames, I.ok.mod, I.bs, Nat.le_trans I.ok.bsz I.sz, I.stack, I.stkFree, I.hok, I.bare⟩
theorem Inv.after {Q : VK} {u : Value} (I : Inv X pins σ H s) (h : CE X.stack X.prog X.w H s Q u s') : EP X pins σ Q u s' := by
  obtain ⟨v, H', os, bare, un, hok, r, q⟩ := h
  obtain ⟨hh, g, d, t, os'⟩ := s'
  obtain rfl : os' = s.os := os
  exact ⟨v, H', I.call (h' := hh) (g' := g) (d' := d) (t' := t) (ch := []) un hok bare (fun b z => absurd z (by simp)), r, q⟩
end
@[reducible] def tCall (sp : Sp) (dvs : List V) (E : XK) (t : TA) : TE := fun σ H Q => t σ H fun vs H1 => sp (vs ++ dvs) H1 Q E
def tMeth (C : Addr) (m : Str) (sp : Sp) (dvs : List V) (E : XK) (ta : TE) (t : TA) : TE := fun σ H Q => ta σ H fun x H1 => ∃ a dx fs, x = .ref a ∧ H1 a = some (.ins C dx fs) ∧ fs.lookup m = none ∧
  t σ H1 fun vs H2 => sp (x :: (vs ++ dvs)) H2 Q E
@[reducible] def tMake (C : Addr) (sp : Sp) (dvs : List V) (E : XK) (t : TA) : TE := fun σ H Q => t σ H fun vs H1 => ∀ x dx, H1 x = none → H1 dx = none → dx ≠ x →
  sp (.ref x :: (vs ++ dvs)) (upd (upd H1 dx (.own x)) x (.ins C dx [])) (fun v H2 => v = .non ∧ Q (.ref x) H2) E
def Binds (K : PySem.W.Frag) (fd : FuncData) (ps : List Str) (ds : List Value) : Prop :=
  ∀ (s : Shared) (us : List Value), K.In s.heap → (us ++ ds).length = ps.length → BindsTo s fd ⟨us, []⟩ (ps.zip (us ++ ds))
theorem Binds.all {K : PySem.W.Frag} {fd : FuncData} {ps : List Str} (h : ∀ us : List Value, us.length = ps.length → bindArgs fd ⟨us, []⟩ = pure (ps.zip us)) : Binds K fd ps [] := fun s us _ hl => by
  rw [List.append_nil] at hl ⊢
  exact .of_eq (h us hl)
def Passes (CX : CXT) (X : Cx) (E : XK) : Prop := ∀ (pins : List (Addr × Obj)) (σ : St) (H : Hp) (s : Shared) (e : Value) (s' : Shared), Inv X pins σ H s → CX X.stack H s E e s' → X.xe e s'
section
variable {X : Cx} {CX : CXT} {k : Nat} {f C : Addr} {fd : FuncData} {ps : List Str} {sp : Sp} {dvs : List V} {ds : List Value} {E : XK} {x m : Str} {p pos apos : Pos} {e o : Expr} {es : List Expr} {ta : TE} {t : TA}
theorem run_fn {pins : List (Addr × Obj)} {σ : St} {H : Hp} {s : Shared} {Q : VK} {us : List Value} {vs : List V} (F : FnOk X.prog X.w X.K X.mg X.base CX k f fd ps sp) (hr : Room k X.A) (hb : Binds X.K fd ps ds) (hd : Vals dvs ds) (hx : Passes CX X E)
    (I : Inv X pins σ H s) (r : Vals vs us) (h : sp (vs ++ dvs) H Q E) : wpAny (model X.prog X.w) X.A (call (.ref f) us) (EP X pins σ Q) X.xe s := by
  have r2 : Vals (vs ++ dvs) (us ++ ds) := r.append hd
  have hl : (us ++ ds).length = ps.length := by rw [← r2.length]; exact F.len _ _ _ _ h
  refine wpAny_call (codeAny_mono (F.run X.A X.stack s H ⟨us, []⟩ (us ++ ds) (vs ++ dvs) Q E hr I.env0 (hb s us I.kIn hl) r2 h) fun r s' hq => ?_)
  cases r with
  | error e => exact hx pins σ H s e s' I hq
  | ok fl =>
    cases fl with
    | ret u => exact I.after hq
    | next => exact False.elim hq
    | brk => exact False.elim hq
    | cont => exact False.elim hq
theorem pe_call (F : FnOk X.prog X.w X.K X.mg X.base CX k f fd ps sp) (hr : Room k X.A) (hg : Gl X x) (hm : X.mg x = some (.ref f)) (hk : PySem.W.keepIn X.K (.ref f) = true) (hb : Binds X.K fd ps ds) (hd : Vals dvs ds) (hx : Passes CX X E)
    (ha : PA X (e :: es) t) (hdb : (x == ("__debug__" : Str)) = false := by decide) (he : starEach (e :: es) X.env = (false, eval e X.env) :: starEach es X.env := by rfl) (hpl : (backTo pos (starEach es X.env)).any (·.1) = false := by rfl) :
    PE X (.Call (.Name x p) (e :: es) [] pos) (tCall sp dvs E t) := by
  intro pins s σ H Q I h
  refine wpAny_Call_Name_kw (ld_glob I hg hm ?_ hdb)
  refine PySem.W.callWith_K (h₀ := X.base) I.ok.mod.kin hk (thn (ha pos pins s σ H _ I h) fun us s1 ⟨vs, H1, I1, r, q⟩ => ⟨I1.kIn, ?_⟩) he hpl
  exact run_fn F hr hb hd hx I1 r q
theorem pe_meth {pl : Sem Bool} (he : PE X o ta) (c : Cls X.K C) (hm : Meth X.K C m f) (F : FnOk X.prog X.w X.K X.mg X.base CX k f fd ps sp) (hr : Room k X.A) (hb : Binds X.K fd ps ds) (hd : Vals dvs ds) (hx : Passes CX X E) (ha : PA X (e :: es) t)
    (hst : starEach (e :: es) X.env = (false, eval e X.env) :: starEach es X.env := by rfl) (hpl : (backTo pos (starEach es X.env)).any (·.1) = false := by rfl)
    (ht : eval (.Call (.Attribute o m apos) (e :: es) [] pos) X.env = (do
      let ov ← eval o X.env
      standAt apos.atName
      let (f, first) ← holding [ov] (getMethod ov m pl)
      callWith pos f first (backTo pos (starEach (e :: es) X.env)) (backToKw pos (keywordEach [] X.env))) := by rfl) :
    PE X (.Call (.Attribute o m apos) (e :: es) [] pos) (tMeth C m sp dvs E ta t) := by
  intro pins s σ H Q I h
  refine PySem.W.methodCall_KW (pl := pl) (thn (he pins s σ H _ I h) fun u s1 ⟨x, H1, I1, rx, a, dx, fs, ex, ea, l, q⟩ => ?_) ht
  subst ex
  obtain rfl : u = Value.ref a := rx
  refine getmeth_ok I1 ea c hm l ?_
  refine PySem.W.callWith_K (first := [.ref a]) (h₀ := X.base) I.ok.mod.kin hm.kp (thn (ha pos pins s1 σ H1 _ I1 q) fun us s2 ⟨vs, H2, I2, r, q2⟩ => ⟨I2.kIn, ?_⟩) hst hpl
  exact run_fn (us := .ref a :: us) (vs := .ref a :: vs) F hr hb hd hx I2 (.cons rfl r) q2
theorem pe_meth0 {pl : Sem Bool} (he : PE X o ta) (c : Cls X.K C) (hm : Meth X.K C m f) (F : FnOk X.prog X.w X.K X.mg X.base CX k f fd ps sp) (hr : Room k X.A) (hb : Binds X.K fd ps ds) (hd : Vals dvs ds) (hx : Passes CX X E)
    (ht : eval (.Call (.Attribute o m apos) [] [] pos) X.env = (do
      let ov ← eval o X.env
      standAt apos.atName
      let (f, first) ← holding [ov] (getMethod ov m pl)
      callWith pos f first (backTo pos (starEach [] X.env)) (backToKw pos (keywordEach [] X.env))) := by rfl) :
    PE X (.Call (.Attribute o m apos) [] [] pos) (tMeth C m sp dvs E ta tNil) := by
  intro pins s σ H Q I h
  refine PySem.W.methodCall_KW (pl := pl) (thn (he pins s σ H _ I h) fun u s1 ⟨x, H1, I1, rx, a, dx, fs, ex, ea, l, q⟩ => ?_) ht
  subst ex
  obtain rfl : u = Value.ref a := rx
  refine getmeth_ok I1 ea c hm l ?_
  exact PySem.W.callWith_K0 (first := [.ref a]) I1.kIn hm.kp (run_fn (us := [.ref a]) (vs := [.ref a]) F hr hb hd hx I1 (.cons rfl .nil) q)
structure Mk (K : PySem.W.Frag) (C f : Addr) : Prop where
  makes : PySem.W.makesIn K C = true
  init : PySem.W.findIn K (.ref C) "__init__" = some (some (.ref f))
  fn : PySem.W.isFn K (.ref f) = true
  kp : PySem.W.keepIn K (.ref C) = true
theorem run_make {pins : List (Addr × Obj)} {σ : St} {H : Hp} {s : Shared} {Q : VK} {us : List Value} {vs : List V} (M : Mk X.K C f) (F : FnOk X.prog X.w X.K X.mg X.base CX k f fd ps sp) (hr : Room (k + 1) X.A) (hb : Binds X.K fd ps ds) (hd : Vals dvs ds)
    (hx : Passes CX X E) (I : Inv X pins σ H s) (r : Vals vs us)
    (h : ∀ x dx, H x = none → H dx = none → dx ≠ x → sp (.ref x :: (vs ++ dvs)) (upd (upd H dx (.own x)) x (.ins C dx [])) (fun v H2 => v = .non ∧ Q (.ref x) H2) E) :
    wpAny (model X.prog X.w) X.A (call (.ref C) us) (EP X pins σ Q) X.xe s := by
  have hq := h (s.heap.objs.size + 1) s.heap.objs.size (I.hok.fresh (Nat.le_succ _)) (I.hok.fresh (Nat.le_refl _)) (Nat.ne_of_lt (Nat.lt_succ_self _))
  have I2 := Inv.made (C := C) I
  have r2 : Vals (V.ref (s.heap.objs.size + 1) :: (vs ++ dvs)) (Value.ref (s.heap.objs.size + 1) :: (us ++ ds)) := .cons rfl (r.append hd)
  have hl : (Value.ref (s.heap.objs.size + 1) :: us ++ ds).length = ps.length := by
    have e := r2.length
    rw [F.len _ _ _ _ hq] at e
    exact e.symm
  refine wpAny_call (make_map (f := f) I.kIn M.makes M.init (beq_iff_eq.mp M.fn) (codeAny_mono (F.run _ X.stack _ _ ⟨Value.ref (s.heap.objs.size + 1) :: us, []⟩ (Value.ref (s.heap.objs.size + 1) :: (us ++ ds)) _ _ E (hr.make C us [])
    (I2.env0.make C us []) (hb _ (Value.ref (s.heap.objs.size + 1) :: us) I2.kIn hl) r2 hq) fun r s' hq' => ?_))
  cases r with
  | error e => exact hx pins σ _ _ e s' I2 hq'
  | ok fl =>
    cases fl with
    | ret u =>
      obtain ⟨v, H', I3, rv, ev, q3⟩ := I2.after hq'
      subst ev
      exact ⟨rv, ⟨V.ref (s.heap.objs.size + 1), H', I3, rfl, q3⟩⟩
    | next => exact False.elim hq'
    | brk => exact False.elim hq'
    | cont => exact False.elim hq'
theorem pe_make (M : Mk X.K C f) (F : FnOk X.prog X.w X.K X.mg X.base CX k f fd ps sp) (hr : Room (k + 1) X.A) (hg : Gl X x) (hm : X.mg x = some (.ref C)) (hb : Binds X.K fd ps ds) (hd : Vals dvs ds) (hx : Passes CX X E)
    (ha : PA X (e :: es) t) (hdb : (x == ("__debug__" : Str)) = false := by decide) (he : starEach (e :: es) X.env = (false, eval e X.env) :: starEach es X.env := by rfl) (hpl : (backTo pos (starEach es X.env)).any (·.1) = false := by rfl) :
    PE X (.Call (.Name x p) (e :: es) [] pos) (tMake C sp dvs E t) := by
  intro pins s σ H Q I h
  refine wpAny_Call_Name_kw (ld_glob I hg hm ?_ hdb)
  refine PySem.W.callWith_K (h₀ := X.base) I.ok.mod.kin M.kp (thn (ha pos pins s σ H _ I h) fun us s1 ⟨vs, H1, I1, r, q⟩ => ⟨I1.kIn, ?_⟩) he hpl
  exact run_make M F hr hb hd hx I1 r q
end
section
variable {X : Cx} {CX : CXT} {k : Nat} {f C : Addr} {fd : FuncData} {ps ks : List Str} {sp : Sp} {E : XK} {x m : Str} {p pos apos kpos : Pos} {e o : Expr} {es : List Expr} {kws : List Keyword} {te ta : TE} {t tk : TA} {nm : Option Str}
variable {g : List Value → List Value → List Value} {gV : List V → List V → List V}
end
structure FnScope (N P : List Str) (sc : Scope) : Prop where
  kind : sc.kind = .function
  co : sc.isCoroutine = false
  gen : sc.isGenerator = false
  nd : N.Nodup
  pre : N.take P.length = P
  par : ∀ x ∈ P, sc.names.lookup x = some .local ∨ sc.names.lookup x = some .cell
  nofree : ∀ y ∈ sc.names, y.2 ≠ .free
theorem bindL_out {kindOf : Str → Option NameKind} {x : Str} : ∀ {binds : List (Str × Value)} {m : Str → Option Value}, (∀ v, (x, v) ∉ binds) → bindL kindOf binds m x = m x
  | [], _, _ => rfl
  | (n, v) :: r, m, h => by
    unfold bindL
    rw [bindL_out fun w hw => h w (List.mem_cons_of_mem _ hw)]
    split
    · have : x ≠ n := by rintro rfl; exact h v List.mem_cons_self
      simp [this]
    · rfl
theorem bindC_out {kindOf : Str → Option NameKind} {x : Str} : ∀ {binds : List (Str × Value)} {m : Str → Option Value}, (∀ v, (x, v) ∉ binds) → bindC kindOf binds m x = m x
  | [], _, _ => rfl
  | (n, v) :: r, m, h => by
    unfold bindC
    rw [bindC_out fun w hw => h w (List.mem_cons_of_mem _ hw)]
    split
    · rfl
    · have : x ≠ n := by rintro rfl; exact h v List.mem_cons_self
      simp [this]
theorem bindL_get {kindOf : Str → Option NameKind} {x : Str} {v : Value} : ∀ {P : List Str} {vs : List Value} {i : Nat} {m : Str → Option Value}, P.Nodup → P[i]? = some x → vs[i]? = some v → kindOf x = some .local →
    bindL kindOf (P.zip vs) m x = some v
  | [], _, _, _, _, h, _, _ => by simp at h
  | _ :: _, [], _, _, _, _, h, _ => by simp at h
  | p :: P, w :: vs, 0, m, nd, h1, h2, hk => by
    simp at h1 h2; subst h1; subst h2
    show bindL kindOf ((p, w) :: P.zip vs) m p = _
    unfold bindL
    rw [bindL_out fun v hv => (List.nodup_cons.mp nd).1 (List.of_mem_zip hv).1, if_pos hk]
    simp
  | p :: P, w :: vs, i + 1, m, nd, h1, h2, hk => by
    show bindL kindOf ((p, w) :: P.zip vs) m x = _
    unfold bindL
    exact bindL_get (i := i) (List.nodup_cons.mp nd).2 (by simpa using h1) (by simpa using h2) hk
theorem bindC_get {kindOf : Str → Option NameKind} {x : Str} {v : Value} : ∀ {P : List Str} {vs : List Value} {i : Nat} {m : Str → Option Value}, P.Nodup → P[i]? = some x → vs[i]? = some v → kindOf x ≠ some .local →
    bindC kindOf (P.zip vs) m x = some v
  | [], _, _, _, _, h, _, _ => by simp at h
  | _ :: _, [], _, _, _, _, h, _ => by simp at h
  | p :: P, w :: vs, 0, m, nd, h1, h2, hk => by
    simp at h1 h2; subst h1; subst h2
    show bindC kindOf ((p, w) :: P.zip vs) m p = _
    unfold bindC
    rw [bindC_out fun v hv => (List.nodup_cons.mp nd).1 (List.of_mem_zip hv).1, if_neg hk]
    simp
  | p :: P, w :: vs, i + 1, m, nd, h1, h2, hk => by
    show bindC kindOf ((p, w) :: P.zip vs) m x = _
    unfold bindC
    exact bindC_get (i := i) (List.nodup_cons.mp nd).2 (by simpa using h1) (by simpa using h2) hk
def start (N : List Str) (vs : List V) : St := vs.map some ++ List.replicate (N.length - vs.length) none
def cxOf (CX : CXT) (P : Program) (w : World) (K : PySem.W.Frag) (mg : Str → Option Value) (base : Heap) (N : List Str) (qual : Str) (scope : Scope) (f : Addr) (cd : Value) (A : Around) (outer : List Env) (s : Shared) (H : Hp) (E : XK) : Cx where
  prog := P
  w := w
  K := K
  mg := mg
  base := base
  A := A.deeper (envOfC qual scope s.heap.objs.size f cd)
  N := N
  s_0 := s
  H_0 := H
  env := envOfC qual scope s.heap.objs.size f cd
  outer := outer
  stack := envOfC qual scope s.heap.objs.size f cd :: outer
  ex := []
  calm := true
  fn := fun _ => true
  pn := []
  xe := fun e s' => wpAny (model P w) (A.deeper (envOfC qual scope s.heap.objs.size f cd)) (leaving (envOfC qual scope s.heap.objs.size f cd) e) (fun _ s'' => CX outer H s E e s'') (fun e' s'' => CX outer H s E e' s'') s'
theorem cell_has {sc : Scope} {n : Nat} {x : Str} (h : sc.names.lookup x = some .cell) : ∃ c, (cellsFrom n sc.names []).lookup x = some c := by
  have q := PySem.W.cellsFrom_some sc.names n [] (.inl h)
  exact Option.isSome_iff_exists.mp q
theorem inv_start {CX : CXT} {P : Program} {w : World} {K : PySem.W.Frag} {mg : Str → Option Value} {base : Heap} {N ps : List Str} {qual : Str} {scope : Scope} {f : Addr} {cd : Value} {A : Around} {outer : List Env} {s s1 : Shared} {H : Hp} {E : XK} {us : List Value} {vs : List V}
    (S : FnScope N ps scope) (hd : A.handled = none) (e0 : Env0 P w K mg base A outer s H) (hl : vs.length = ps.length) (r : Vals vs us)
    (x : InCallC s s.heap.objs.size (bindL (envOfC qual scope s.heap.objs.size f cd).kindOf (ps.zip us) fun _ => none) (cellsFrom (s.heap.objs.size + 1) scope.names []) (bindC (envOfC qual scope s.heap.objs.size f cd).kindOf (ps.zip us) fun _ => none) s1) :
    Inv (cxOf CX P w K mg base N qual scope f cd A outer s H E) [] (start N vs) H s1 := by
  have hpl : ps.length ≤ N.length := by have := congrArg List.length S.pre; rw [List.length_take] at this; (first | lia | omega)
  obtain ⟨h1, tk, rfl, hk⟩ := x.done
  have noA : ∀ b : Addr, b ∉ (cxOf CX P w K mg base N qual scope f cd A outer s H E).ex := fun b z => absurd (show b ∈ ([] : List Addr) from z) (by simp)
  refine ⟨⟨e0.mod, S.kind, rfl, rfl, Nat.le_refl _, fun y z c h1 h2 => ?_, fun y hy => ?_, fun y c _ h => ?_, fun _ => hd, Around.frames_deeper e0.frames, .inr ⟨rfl, rfl⟩, fun b z => absurd z (noA b), e0.bs, e0.bsz, fun b _ _ => noA b, fun b z => absurd z (noA b), e0.funs, e0.frf⟩,
    rfl, e0.bare, Un.kept hk, ⟨_, x.toInCall.ns, fun i y v h1 h2 h3 => ?_⟩, fun y c h => ⟨_, x.cell y c h⟩, e0.hok.fresh (Nat.le_refl _), fun y c h => ?_, fun p hp => absurd (show p ∈ ([] : List (Addr × Obj)) from hp) (by simp), e0.hok.kept hk, ?_⟩
  · exact name_of_addr x.apart (PySem.mem_of_lookup h1) (PySem.mem_of_lookup h2)
  · have hy : scope.names.lookup y = some .cell ∨ scope.names.lookup y = some .free := hy
    rcases hy with hy | hy
    · exact cell_has hy
    · exact absurd rfl (S.nofree _ (PySem.mem_of_lookup hy))
  · exact Nat.le_of_lt (x.above y c (PySem.mem_of_lookup h))
  · have hi : i < vs.length := by
      unfold start at h2
      by_cases hi : i < vs.length
      · exact hi
      · rw [List.getElem?_append_right (by simpa using hi)] at h2
        rw [List.getElem?_replicate] at h2
        split at h2 <;> cases h2
    have ha : vs[i]? = some v := by
      unfold start at h2
      rw [List.getElem?_append_left (by simpa using hi), List.getElem?_map] at h2
      cases e : vs[i]? with
      | none => rw [e] at h2; cases h2
      | some a => rw [e] at h2; cases h2; rfl
    obtain ⟨u, hu, rv⟩ := r.get ha
    have hp : ps[i]? = some y := by
      rw [← S.pre, List.getElem?_take_of_lt (by (first | lia | omega))]; exact h1
    have ndP : ps.Nodup := by rw [← S.pre]; exact S.nd.sublist (List.take_sublist _ _)
    refine ⟨u, rv, ?_⟩
    rcases S.par y (List.mem_of_getElem? hp) with k | k
    · exact .inl ⟨k, bindL_get ndP hp hu k⟩
    · obtain ⟨c, e⟩ := cell_has (n := s.heap.objs.size + 1) k
      refine .inr ⟨.inl k, c, e, ?_⟩
      have q := x.cell y c e
      rw [bindC_get ndP hp hu (by show scope.names.lookup y ≠ _; rw [k]; decide)] at q
      exact q
  · exact e0.hok.fresh (Nat.le_of_lt (x.above y c (PySem.mem_of_lookup h)))
  · unfold start
    show _ = N.length
    rw [List.length_append, List.length_map, List.length_replicate]
    (first | lia | omega)
theorem fn_of {CX : CXT} {P : Program} {w : World} {K : PySem.W.Frag} {mg : Str → Option Value} {base : Heap} {k : Nat} {f : Addr} {name qual : Str} {params : Arguments} {body : List Stmt} {scope : Scope} {dV kV doc pm cdv ct oc : Value} {an od : Option Addr}
    {osl : Array (Option Value)} {N ps : List Str} {sp : Sp} (lk : K.lookup f = some ⟨oc, od, .func (PySem.W.fnOf name qual params body scope dV kV doc pm an cdv ct), osl⟩) (hcd : PySem.W.codeIn K cdv qual = true) (S : FnScope N ps scope)
    (len : ∀ vs H Q E, sp vs H Q E → vs.length = ps.length)
    (hbody : ∀ (A : Around) (outer : List Env) (s : Shared) (H : Hp) (vs : List V) (Q : VK) (E : XK), Room k (A.deeper (envOfC qual scope s.heap.objs.size f cdv)) → sp vs H Q E →
      ∃ t, PSs (cxOf CX P w K mg base N qual scope f cdv A outer s H E) body t ∧ t { nx := fun _ H' => Q .non H', rt := Q } (start N vs) H) :
    FnOk P w K mg base CX (k + 1) f (PySem.W.fnOf name qual params body scope dV kV doc pm an cdv ct) ps sp := by
  refine ⟨len, fun A outer s H args us vs Q E hr e0 hb r hsp => ?_⟩
  have hl := len _ _ _ _ hsp
  have KX : K.In s.heap := e0.mod.kin.keeps fun b o e => (e0.bs b o e).1
  have lim : s.heap.NoLimit := e0.mod.nolimit.keeps fun b o e => (e0.bs b o e).1
  have hkind : ∀ y ∈ ps.zip us, scope.names.lookup y.1 = some .local ∨ (scope.names.lookup y.1 = some .cell ∧ ((cellsFrom (s.heap.objs.size + 1) scope.names []).lookup y.1).isSome = true) := fun ⟨n, v⟩ hy => by
    rcases S.par n (List.of_mem_zip hy).1 with q | q
    · exact .inl q
    · exact .inr ⟨q, PySem.W.cellsFrom_some _ _ _ (.inl q)⟩
  refine codeAny_call_function hr.depth (KX _ _ lk) rfl S.co S.gen rfl (PySem.W.codeRec_of KX hcd) (hb _ _ _ _ ?_)
  refine wpAny_newFunctionEnv_cells S.kind hkind fun env he s1 x => ?_
  subst he
  refine ⟨lim.keeps x.toInCall.keep, codeAny_func ?_⟩
  obtain ⟨t, ht, hq⟩ := hbody A outer s H vs Q E (hr.deeper _) hsp
  have I : Inv (cxOf CX P w K mg base N qual scope f cdv A outer s H E) [] (start N vs) H s1 := inv_start S hr.hd e0 hl r x
  refine wpAny_mono (ht [] s1 (start N vs) H _ I hq) (fun fl s' hs => ?_) fun e s' hs => hs
  have fin : ∀ {σ' : St} {H' : Hp} {v : V} {u : Value}, Inv (cxOf CX P w K mg base N qual scope f cdv A outer s H E) [] σ' H' s' → RelV v u → Q v H' → CE outer P w H s Q u s' :=
    fun {σ' H' v u} J rv q => ⟨v, H', J.os, J.bare, J.base, J.hok, rv, q⟩
  cases fl with
  | ret u =>
    obtain ⟨v, σ', H', J, rv, q⟩ := hs
    exact fin J rv q
  | next =>
    obtain ⟨σ', H', J, q⟩ := hs
    exact fin (v := V.non) (u := Value.none) J rfl q
  | brk =>
    obtain ⟨_, _, _, q⟩ := hs
    exact False.elim q
  | cont =>
    obtain ⟨_, _, _, q⟩ := hs
    exact False.elim q
end L2
namespace L2
open PySem PySem.Spec PyProof.Rows
section
variable {X : Cx} {x : Str} {p pos : Pos} {e : Expr} {es : List Expr} {t : TA} {id T : String} {r : List V → Hp → VK → Prop}
@[reducible] def tCB (r : List V → Hp → VK → Prop) (t : TA) : TE := fun σ H Q => t σ H fun vs H1 => r vs H1 Q
theorem pe_callB (hc : CallR X (.builtin id) r) (hg : Gl X x) (hm : X.mg x = none) (hv : bootBuiltins x = some (.builtin id)) (ha : PA X (e :: es) t) (hn : x ≠ "__name__" := by decide) (hdb : (x == ("__debug__" : Str)) = false := by decide)
    (he : starEach (e :: es) X.env = (false, eval e X.env) :: starEach es X.env := by rfl) (hpl : (backTo pos (starEach es X.env)).any (·.1) = false := by rfl) : PE X (.Call (.Name x p) (e :: es) [] pos) (tCB r t) := by
  intro pins s σ H Q I h
  refine wpAny_Call_Name_kw (ld_blt I hg hm hv ?_ hn hdb)
  exact PyProof.Rows.callWith_builtin1 (thn (ha pos pins s σ H _ I h) fun us s1 ⟨vs, H1, I1, r1, q1⟩ => hc pins s1 σ H1 vs us Q I1 r1 q1) he hpl
theorem pe_callTy (hc : CallR X (.type T) r) (hg : Gl X x) (hm : X.mg x = none) (hv : bootBuiltins x = some (.type T)) (ha : PA X (e :: es) t) (hn : x ≠ "__name__" := by decide) (hdb : (x == ("__debug__" : Str)) = false := by decide)
    (he : starEach (e :: es) X.env = (false, eval e X.env) :: starEach es X.env := by rfl) (hpl : (backTo pos (starEach es X.env)).any (·.1) = false := by rfl) : PE X (.Call (.Name x p) (e :: es) [] pos) (tCB r t) := by
  intro pins s σ H Q I h
  refine wpAny_Call_Name_kw (ld_blt I hg hm hv ?_ hn hdb)
  exact PyProof.Rows.callWith_type1 (thn (ha pos pins s σ H _ I h) fun us s1 ⟨vs, H1, I1, r1, q1⟩ => hc pins s1 σ H1 vs us Q I1 r1 q1) he hpl
end
end L2
namespace HT
open PySem PyProof.Rows
section
open PySem.SeqAt
open PySem.AutoSeq1 (wpAny_loadPart')
open PySem.MeetsSeq PySem.MeetsSeq2 PySem.MeetsSeq3
end
section
variable {prog : Program} {w : World} {A : Around} {E : Value → Shared → Prop} {s : Shared}
def sIx (n d : Nat) : Option Int → Nat
  | none => d
  | some v => if v < 0 then (v + (n : Int)).toNat else min v.toNat n
end
end HT
namespace L2
open PySem PySem.Spec PyProof.Rows
abbrev TO := St → Hp → (Option Int → Hp → Prop) → Prop
def PO (X : Cx) (e : Option Expr) (t : TO) : Prop :=
  ∀ (pins : List (Addr × Obj)) (s : Shared) (σ : St) (H : Hp) (Q : Option Int → Hp → Prop), Inv X pins σ H s → t σ H Q →
    wpAny (model X.prog X.w) X.A (evalPart e X.env) (fun u s' => ∃ o H', Inv X pins σ H' s' ∧ IsPart u o ∧ Q o H') X.xe s
@[reducible] def tNoPart : TO := fun _ H Q => Q none H
@[reducible] def tPart (t : TE) : TO := fun σ H Q => t σ H fun x H1 => ∃ i, x = .int i ∧ Q (some i) H1
section
variable {X : Cx} {e : Expr} {te : TE} {lo hi : Option Expr} {tl th : TO} {pos p2 : Pos}
theorem po_none : PO X none tNoPart := by
  intro pins s σ H Q I h
  rw [evalPart_none]
  exact wpAny_pure ⟨none, H, I, .none, h⟩
theorem po_some (h : PE X e te) : PO X (some e) (tPart te) := by
  intro pins s σ H Q I hw
  rw [evalPart_some]
  refine thn (h pins s σ H _ I hw) fun u s1 ⟨x, H1, I1, r1, q1⟩ => ?_
  obtain ⟨i, rfl, q⟩ := q1
  obtain ⟨t, rfl⟩ := r1
  exact ⟨some i, H1, I1, .int i t, q⟩
def SlR (X : Cx) (r : V → Option Int → Option Int → Hp → VK → Prop) : Prop :=
  ∀ (pins : List (Addr × Obj)) (s : Shared) (σ : St) (H : Hp) (x : V) (v vl vu : Value) (lo hi : Option Int) (sl : Addr) (Q : VK), Inv X pins σ H s → RelV x v → s.heap.IsSliceOf sl vl vu .none → IsPart vl lo → IsPart vu hi → r x lo hi H Q →
    ∃ T id, typeLookup (.type T) "__getitem__" = pure (some (.builtin id)) ∧ s.TypeIs v T ∧ wpAny (model X.prog X.w) X.A (getItem v (.ref sl)) (EP X pins σ Q) X.xe s
@[reducible] def tSl (r : V → Option Int → Option Int → Hp → VK → Prop) (te : TE) (tl th : TO) : TE := fun σ H Q => te σ H fun x H1 => tl σ H1 fun l H2 => th σ H2 fun u H3 => r x l u H3 Q
theorem pe_slice {r : V → Option Int → Option Int → Hp → VK → Prop} (hr : SlR X r) (he : PE X e te) (hl : PO X lo tl) (hu : PO X hi th) : PE X (.Subscript e (.Slice lo hi none p2) pos) (tSl r te tl th) := by
  intro pins s σ H Q I h
  refine Subscript_ (thn (he pins s σ H _ I h) fun v s1 ⟨x, H1, I1, r1, q1⟩ => ?_)
  refine wpAny_Slice (thn (hl pins s1 σ H1 _ I1 q1) fun vl s2 ⟨l, H2, I2, pl, q2⟩ => thn (hu pins s2 σ H2 _ I2 q2) fun vu s3 ⟨u, H3, I3, pu, q3⟩ => ?_)
  rw [evalPart_none]
  refine wpAny_pure ?_
  have I4 : Inv X pins σ H3 { s3 with heap := s3.heap.push { cls := .type "slice", data := .fields #[vl, vu, .none] } } := I3.kept (t' := s3.toks) fun b ob q => Heap.get?_push_of_some _ q
  obtain ⟨T, id, hT, ht, hg⟩ := hr pins { s3 with heap := s3.heap.push { cls := .type "slice", data := .fields #[vl, vu, .none] } } σ H3 x v vl vu l u s3.heap.objs.size Q I4 r1 (Heap.IsSliceOf.new ..) pl pu q3
  show wpAny (model X.prog X.w) X.A (subscriptTail e (.Slice lo hi none p2) v (.ref s3.heap.objs.size)) (EP X pins σ Q) X.xe { s3 with heap := s3.heap.push { cls := .type "slice", data := .fields #[vl, vu, .none] } }
  exact tail_any (ops := [.ref s3.heap.objs.size, v]) ht hT hg (by with_unfolding_all rfl)
def cutV (xs : List V) (lo hi : Option Int) : List V := (xs.drop (HT.sIx xs.length 0 lo)).take (HT.sIx xs.length xs.length hi - HT.sIx xs.length 0 lo)
theorem cutV_length (xs : List V) (lo hi : Option Int) : (cutV xs lo hi).length ≤ xs.length := by
  unfold cutV
  rw [List.length_take, List.length_drop]
  (first | lia | omega)
end
end L2
namespace L2
open PySem PySem.Spec PyProof.Rows
def ixN (n : Nat) (i : Int) : Option Nat := if 0 ≤ i then (if i < n then some i.toNat else none) else if -(n : Int) ≤ i then some (i + n).toNat else none
def atI {α : Type} (xs : List α) (i : Int) : Option α := (ixN xs.length i).bind fun j => xs[j]?
theorem ixN_seq {n : Nat} {i : Int} {j : Nat} (h : ixN n i = some j) : seqIndex? i n = some j ∧ j < n ∧ -(n : Int) ≤ i ∧ i < n := by
  unfold ixN at h
  by_cases h0 : 0 ≤ i
  · rw [if_pos h0] at h
    by_cases h1 : i < n
    · rw [if_pos h1] at h
      have e : i.toNat = j := Option.some.inj h
      exact ⟨by rw [seqIndex_of h0 h1, e], by (first | lia | omega), by (first | lia | omega), h1⟩
    · rw [if_neg h1] at h; cases h
  · rw [if_neg h0] at h
    by_cases h1 : -(n : Int) ≤ i
    · rw [if_pos h1] at h
      have e : (i + n).toNat = j := Option.some.inj h
      exact ⟨by rw [seqIndex_neg (by (first | lia | omega)) h1, e], by (first | lia | omega), h1, by (first | lia | omega)⟩
    · rw [if_neg h1] at h; cases h
theorem atI_get {α : Type} {xs : List α} {i : Int} {v : α} (h : atI xs i = some v) : ∃ j, seqIndex? i xs.length = some j ∧ xs[j]? = some v ∧ j < xs.length ∧ -(xs.length : Int) ≤ i ∧ i < xs.length := by
  unfold atI at h
  cases e : ixN xs.length i with
  | none => rw [e] at h; cases h
  | some j =>
    rw [e] at h
    obtain ⟨h1, h2, h3, h4⟩ := ixN_seq e
    exact ⟨j, h1, h, h2, h3, h4⟩
theorem atI_nat {α : Type} {xs : List α} {j : Nat} {v : α} (h : xs[j]? = some v) : atI xs (j : Int) = some v := by
  have hj : j < xs.length := (List.getElem?_eq_some_iff.mp h).1
  have e : ixN xs.length (j : Int) = some j := by
    unfold ixN
    rw [if_pos (by (first | lia | omega)), if_pos (by (first | lia | omega))]; simp
  unfold atI; rw [e]; exact h
def PlainIx (b : Expr) : Prop := ∀ o i, subscripted b false o i = operate [o, i] (getItem o i)
def IxR (X : Cx) (r : R2) : Prop :=
  ∀ (value slice : Expr) (pins : List (Addr × Obj)) (s : Shared) (σ : St) (H : Hp) (x y : V) (v u : Value) (Q : VK), Inv X pins σ H s → RelV x v → RelV y u → r x y H Q →
    subscripted slice false v u = operate [v, u] (getItem v u) → wpAny (model X.prog X.w) X.A (subscriptTail value slice v u) (EP X pins σ Q) X.xe s
def MtR (X : Cx) (id : String) (r : V → List V → Hp → VK → Prop) : Prop :=
  ∀ (pins : List (Addr × Obj)) (s : Shared) (σ : St) (H : Hp) (x : V) (xs : List V) (v : Value) (us : List Value) (Q : VK), Inv X pins σ H s → RelV x v → Vals xs us → r x xs H Q →
    wpAny (model X.prog X.w) X.A (call (.builtin id) (v :: us)) (EP X pins σ Q) X.xe s
section
variable {X : Cx} {a b : Expr} {ta tb : TE} {pos : Pos}
theorem pe_ix {r : R2} (hr : IxR X r) (ha : PE X a ta) (hb : PE X b tb) (hs : PlainIx b) : PE X (.Subscript a b pos) (tOp r ta tb) := by
  intro pins s σ H Q I h
  exact Subscript_ (binT ha hb I h fun v u s2 x y H2 I2 rx ry q => hr a b pins s2 σ H2 x y v u Q I2 rx ry q (hs _ _))
def rIxL (K : PySem.W.Frag) : R2 := fun x y H Q => ∃ p xs i v, x = .ref p ∧ y = .int i ∧ SqL K H p xs ∧ atI xs i = some v ∧ Q v H
def rIxT (K : PySem.W.Frag) : R2 := fun x y H Q => ∃ p xs i v, x = .ref p ∧ y = .int i ∧ SqT K H p xs ∧ atI xs i = some v ∧ Q v H
theorem ix_list : IxR X (rIxL X.K) := by
  intro value slice pins s σ H x y v u Q I rx ry h hs
  obtain ⟨p, xs, i, z, rfl, rfl, hq, he, q⟩ := h
  cases rx
  obtain ⟨t, rfl⟩ := ry
  obtain ⟨its, r, pl, hz⟩ := I.list hq
  obtain ⟨j, h1, h2, h3, h4, h5⟩ := atI_get he
  obtain ⟨w, ew, rw'⟩ := r.get h2
  have hl := r.length
  have hn := line63
  have fin : EP X pins σ Q w s := ⟨z, H, I, rw', q⟩
  by_cases h0 : 0 ≤ i
  · have hj : i.toNat = j := by
      rw [seqIndex_of h0 h5] at h1
      exact Option.some.inj h1
    exact item_listR pl.isList h0 (by (first | lia | omega)) (by rw [hj]; simpa using ew) fin hs
  · have hj : (i + (its.toArray.size : Int)).toNat = j := by
      rw [seqIndex_neg (by (first | lia | omega)) h4] at h1
      rw [List.size_toArray, ← hl]
      exact Option.some.inj h1
    exact subscriptTail_builtinR (x := w) pl.isList.typeIs slot_list_getitem.lookup
      (wpAny_getItem_list_neg (Q := fun r s' => r = w ∧ EP X pins σ Q r s') pl.isList (by (first | lia | omega)) (by rw [List.size_toArray] <;> (first | lia | omega)) (by (first | lia | omega)) (by rw [hj]; simpa using ew) ⟨rfl, fin⟩) hs
theorem ix_tup : IxR X (rIxT X.K) := by
  intro value slice pins s σ H x y v u Q I rx ry h hs
  obtain ⟨p, xs, i, z, rfl, rfl, hq, he, q⟩ := h
  cases rx
  obtain ⟨t, rfl⟩ := ry
  obtain ⟨its, r, pl, hz⟩ := I.tuple hq
  obtain ⟨j, h1, h2, h3, h4, h5⟩ := atI_get he
  obtain ⟨w, ew, rw'⟩ := r.get h2
  have hl := r.length
  have hn := line63
  have fin : EP X pins σ Q w s := ⟨z, H, I, rw', q⟩
  exact subscriptTail_builtinR (x := w) pl.typeIs slot_tuple_getitem.lookup
    (getItem_tuple (j := j) (Q := fun r s' => r = w ∧ EP X pins σ Q r s') pl (by (first | lia | omega)) (by (first | lia | omega)) (by rw [List.size_toArray, ← hl]; exact h1) (by simpa using ew) ⟨rfl, fin⟩) hs
theorem mapSeq_set (its : List Value) (n j : Nat) (u : Value) : Obj.mapSeq (·.setIfInBounds j u) { cls := .type "list", data := .seq its.toArray n } = { cls := .type "list", data := .seq (its.set j u).toArray n } := by
  simp [Obj.mapSeq]
theorem Inv.lst {pins : List (Addr × Obj)} {σ : St} {H : Hp} {s : Shared} {p : Addr} {xs : List V} (I : Inv X pins σ H s) (h : H p = some (.lst xs)) :
    ∃ (its : List Value) (n : Nat), Vals xs its ∧ s.heap.get? p = some { cls := .type "list", data := .seq its.toArray n } ∧ xs.length ≤ sizeLine := by
  obtain ⟨z, its, n, r, e⟩ := I.hok p _ h
  exact ⟨its, n, r, e, z⟩
theorem Inv.lstUpd {pins : List (Addr × Obj)} {σ : St} {H : Hp} {s : Shared} {p : Addr} {xs ys : List V} {its its' : List Value} {n n' : Nat} {f : Obj → Obj} (I : Inv X pins σ H s) (h : H p = some (.lst xs))
    (ho : s.heap.get? p = some { cls := .type "list", data := .seq its.toArray n }) (hf : f { cls := .type "list", data := .seq its.toArray n } = { cls := .type "list", data := .seq its'.toArray n' }) (r : Vals ys its') (hz : ys.length ≤ sizeLine) (t : Nat) :
    Inv X pins σ (upd H p (.lst ys)) { s with heap := s.heap.update p f, toks := t } := by
  have e : (s.heap.update p f).get? p = some { cls := .type "list", data := .seq its'.toArray n' } := by
    rw [Heap.get?_update_self f ho (by rw [hf] <;> rfl), hf]
  refine I.write (x := p) (e := p) (by rw [h]; trivial) (.inl rfl) (fun b u hb q => (Heap.get?_update_other _ _ (Ne.symm hb)).trans q) ⟨_, e⟩ ?_
  exact ⟨hz, its', n', r, e⟩
def rSetL : V → V → V → Hp → (Hp → Prop) → Prop := fun o i v H Q => ∃ p xs k j, o = .ref p ∧ i = .int k ∧ H p = some (.lst xs) ∧ ixN xs.length k = some j ∧ Q (upd H p (.lst (xs.set j v)))
theorem set_list : PSet X rSetL := by
  intro pins s σ H o i v ov iv u Q I ro ri rv h
  obtain ⟨p, xs, k, j, rfl, rfl, hp, hj, q⟩ := h
  cases ro
  obtain ⟨t, rfl⟩ := ri
  obtain ⟨its, n, r, ho, hz⟩ := I.lst hp
  obtain ⟨h1, h2, h3, h4⟩ := ixN_seq hj
  have hl := r.length
  have hn := line63
  have I' : Inv X pins σ (upd H p (.lst (xs.set j v))) { s with heap := s.heap.update p (Obj.mapSeq (·.setIfInBounds j u)) } :=
    I.lstUpd hp ho (mapSeq_set its n j u) (r.set rv j) (by rw [List.length_set]; exact hz) s.toks
  by_cases h0 : 0 ≤ k
  · have hk : k.toNat = j := by
      rw [seqIndex_of h0 h4] at h1
      exact Option.some.inj h1
    exact PySem.W.ki_setAt ho h0 (by (first | lia | omega)) (by rw [List.size_toArray, ← hl]; exact h4) (by rw [hk]; exact ⟨_, I', q⟩)
  · have hk : (k + (its.toArray.size : Int)).toNat = j := by
      rw [seqIndex_neg (by (first | lia | omega)) h3] at h1
      rw [List.size_toArray, ← hl]
      exact Option.some.inj h1
    exact PySem.W.ki_setBack ho (by (first | lia | omega)) (by rw [List.size_toArray, ← hl]; exact h3) (by (first | lia | omega)) (by rw [hk]; exact ⟨_, I', q⟩)
theorem slice_bounds (lo hi : Option Int) (n : Nat) : (sliceBounds lo hi none n).1 = ((HT.sIx n 0 lo : Nat) : Int) ∧ (sliceBounds lo hi none n).2.1 = ((HT.sIx n n hi : Nat) : Int) ∧ (sliceBounds lo hi none n).2.2 = 1 := by
  refine ⟨?_, ?_, rfl⟩
  · cases lo with
    | none => simp [sliceBounds, HT.sIx]
    | some i =>
      simp only [sliceBounds, HT.sIx, Option.getD_none, show (1 : Int) > 0 by decide, if_true]
      by_cases h : i < 0
      · simp only [h, if_true] <;> (first | lia | omega)
      · simp only [h, if_false] <;> (first | lia | omega)
  · cases hi with
    | none => simp [sliceBounds, HT.sIx]
    | some i =>
      simp only [sliceBounds, HT.sIx, Option.getD_none, show (1 : Int) > 0 by decide, if_true]
      by_cases h : i < 0
      · simp only [h, if_true] <;> (first | lia | omega)
      · simp only [h, if_false] <;> (first | lia | omega)
theorem slicePick_cut (its : List Value) (lo hi : Option Int) : slicePick its.toArray lo hi none = ((its.drop (HT.sIx its.length 0 lo)).take (HT.sIx its.length its.length hi - HT.sIx its.length 0 lo)).toArray := by
  obtain ⟨h1, h2, h3⟩ := slice_bounds lo hi its.toArray.size
  unfold slicePick
  rw [h1, h2, h3]
  simp only [sliceRange_one, pick_run, List.size_toArray] <;> rfl
def rSlL (K : PySem.W.Frag) : V → Option Int → Option Int → Hp → VK → Prop := fun x lo hi H Q => ∃ a xs, x = .ref a ∧ SqL K H a xs ∧ ∀ p, H p = none → Q (.ref p) (upd H p (.lst (cutV xs lo hi)))
theorem sl_list : SlR X (rSlL X.K) := by
  intro pins s σ H x v vl vu lo hi sl Q I rx hs pl pu h
  obtain ⟨a, xs, rfl, hx, q⟩ := h
  cases rx
  obtain ⟨its, r, ht, hz⟩ := I.list hx
  have hlen := r.length
  refine ⟨"list", _, slot_list_getitem.lookup, ht.isList.typeIs, ?_⟩
  refine wpAny_getItem_list_slice ht.isList hs pl pu .none (by simp) ?_ (by rw [List.size_toArray] <;> (first | lia | omega))
  rw [slicePick_cut, ← hlen]
  refine ⟨.ref s.heap.objs.size, _, I.laid (t' := s.toks) (o := .lst (cutV xs lo hi)) (fun b ob q => Heap.get?_push_of_some _ q) (Nat.le_refl _) ?_, rfl, q _ (I.hok.fresh (Nat.le_refl _))⟩
  exact ⟨Nat.le_trans (cutV_length xs lo hi) hz, _, 0, (r.drop (HT.sIx xs.length 0 lo)).take (HT.sIx xs.length xs.length hi - HT.sIx xs.length 0 lo), Heap.get?_push_size _ rfl⟩
def flatV : V → Bool
  | .non => true
  | .bl _ => true
  | .int _ => true
  | .str _ => true
  | _ => false
def eqV : V → V → Bool
  | .non, .non => true
  | .bl a, .bl b => a == b
  | .bl a, .int b => (if a then 1 else 0) == b
  | .int a, .bl b => a == (if b then 1 else 0)
  | .int a, .int b => a == b
  | .str a, .str b => a == b
  | _, _ => false
theorem eqAt_V {A : Around} {s : Shared} {y x : V} {u v : Value} (ry : RelV y u) (rx : RelV x v) (fy : flatV y = true) (fx : flatV x = true) : SeqAt.EqAt A s u v (eqV y x) := by
  cases y with
  | non =>
    cases ry
    cases x with
    | non => cases rx; exact SeqAt.EqAt.same _
    | bl b => cases rx; exact SeqAt.EqAt.none_bool b
    | int b => obtain ⟨t, rfl⟩ := rx; exact SeqAt.EqAt.none_int b t
    | str b => obtain ⟨t, rfl⟩ := rx; exact SeqAt.EqAt.none_str b t
    | _ => exact absurd (show false = true from fx) Bool.false_ne_true
  | bl a =>
    cases ry
    cases x with
    | non => cases rx; exact SeqAt.EqAt.bool_none a
    | bl b => cases rx; exact SeqAt.EqAt.bool_bool a b
    | int b => obtain ⟨t, rfl⟩ := rx; exact SeqAt.EqAt.bool_int a b t
    | str b => obtain ⟨t, rfl⟩ := rx; exact SeqAt.EqAt.bool_str a b t
    | _ => exact absurd (show false = true from fx) Bool.false_ne_true
  | int a =>
    obtain ⟨t', rfl⟩ := ry
    cases x with
    | non => cases rx; exact SeqAt.EqAt.int_none a t'
    | bl b => cases rx; exact SeqAt.EqAt.int_bool a t' b
    | int b => obtain ⟨t, rfl⟩ := rx; exact SeqAt.EqAt.int_int a t' b t
    | str b => obtain ⟨t, rfl⟩ := rx; exact SeqAt.EqAt.int_str a t' b t
    | _ => exact absurd (show false = true from fx) Bool.false_ne_true
  | str a =>
    obtain ⟨t', rfl⟩ := ry
    cases x with
    | non => cases rx; exact SeqAt.EqAt.str_none a t'
    | bl b => cases rx; exact SeqAt.EqAt.str_bool a t' b
    | int b => obtain ⟨t, rfl⟩ := rx; exact SeqAt.EqAt.str_int a t' b t
    | str b => obtain ⟨t, rfl⟩ := rx; exact SeqAt.EqAt.str_str a t' b t
    | _ => exact absurd (show false = true from fx) Bool.false_ne_true
  | _ => exact absurd (show false = true from fy) Bool.false_ne_true
def eqU (x : V) (u : Value) : Bool := match u with
  | .none => eqV .non x
  | .bool b => eqV (.bl b) x
  | .int i _ => eqV (.int i) x
  | .str z _ => eqV (.str z) x
  | _ => false
theorem eqU_of {x y : V} {u : Value} (r : RelV y u) (f : flatV y = true) : eqU x u = eqV y x := by
  cases y with
  | non => cases r; rfl
  | bl b => cases r; rfl
  | int i => obtain ⟨t, rfl⟩ := r; rfl
  | str z => obtain ⟨t, rfl⟩ := r; rfl
  | _ => exact absurd (show false = true from f) Bool.false_ne_true
theorem any_eqU {x : V} : ∀ {xs : List V} {us : List Value}, Vals xs us → xs.all flatV = true → us.any (eqU x) = xs.any fun y => eqV y x
  | _, _, .nil, _ => rfl
  | y :: xs, u :: us, .cons r t, f => by
    rw [List.all_cons, Bool.and_eq_true] at f
    rw [List.any_cons, List.any_cons, eqU_of r f.1, any_eqU t f.2]
theorem mem_eqAt {A : Around} {s : Shared} {x : V} {v : Value} (rx : RelV x v) (fx : flatV x = true) : ∀ {xs : List V} {us : List Value}, Vals xs us → xs.all flatV = true → ∀ u ∈ us, SeqAt.EqAt A s u v (eqU x u)
  | _, _, .nil, _ => fun u hu => by cases hu
  | y :: xs, u :: us, .cons r t, f => fun u' hu => by
    rw [List.all_cons, Bool.and_eq_true] at f
    rcases List.mem_cons.mp hu with rfl | hu
    · rw [eqU_of r f.1]; exact eqAt_V r rx f.1 fx
    · exact mem_eqAt rx fx t f.2 u' hu
def inV (x : V) (xs : List V) : Bool := xs.any fun y => eqV y x
def rIn (K : PySem.W.Frag) (neg : Bool) : R2 := fun x y H Q => ∃ p xs, y = .ref p ∧ (SqL K H p xs ∨ SqT K H p xs) ∧ flatV x = true ∧ xs.all flatV = true ∧ Q (.bl (if neg then !inV x xs else inV x xs)) H
theorem op_in_seq : OpR X (compareOp .In) (rIn X.K false) := by
  intro pins s σ H x y v u Q I rx ry h
  obtain ⟨p, xs, rfl, hq, fx, fs, q⟩ := h
  cases ry
  rcases hq with hq | hq
  · obtain ⟨its, r, pl, hz⟩ := I.list hq
    refine SeqAt.in_listAt (eqU x) pl.isList (fun w hw => mem_eqAt rx fx r fs w (by simpa using hw)) ⟨.bl _, H, I, rfl, ?_⟩
    rw [show its.toArray.any (eqU x) = its.any (eqU x) by simp, any_eqU r fs]
    exact q
  · obtain ⟨its, r, pl, hz⟩ := I.tuple hq
    refine SeqAt.in_tupleAt (eqU x) pl (fun w hw => mem_eqAt rx fx r fs w (by simpa using hw)) ⟨.bl _, H, I, rfl, ?_⟩
    rw [show its.toArray.any (eqU x) = its.any (eqU x) by simp, any_eqU r fs]
    exact q
theorem op_notIn_seq : OpR X (compareOp .NotIn) (rIn X.K true) := by
  intro pins s σ H x y v u Q I rx ry h
  obtain ⟨p, xs, rfl, hq, fx, fs, q⟩ := h
  cases ry
  rcases hq with hq | hq
  · obtain ⟨its, r, pl, hz⟩ := I.list hq
    refine SeqAt.notIn_listAt (eqU x) pl.isList (fun w hw => mem_eqAt rx fx r fs w (by simpa using hw)) ⟨.bl _, H, I, rfl, ?_⟩
    rw [show its.toArray.any (eqU x) = its.any (eqU x) by simp, any_eqU r fs]
    exact q
  · obtain ⟨its, r, pl, hz⟩ := I.tuple hq
    refine SeqAt.notIn_tupleAt (eqU x) pl (fun w hw => mem_eqAt rx fx r fs w (by simpa using hw)) ⟨.bl _, H, I, rfl, ?_⟩
    rw [show its.toArray.any (eqU x) = its.any (eqU x) by simp, any_eqU r fs]
    exact q
theorem call_len_seq : CallR X (.builtin "len") (fun xs H Q => ∃ p ys, xs = [.ref p] ∧ (SqL X.K H p ys ∨ SqT X.K H p ys) ∧ Q (.int ys.length) H) := by
  intro pins s σ H xs us Q I r h
  obtain ⟨p, ys, rfl, hq, q⟩ := h
  obtain ⟨u, rfl, rx⟩ := vals1 r
  cases rx
  have hn := line63
  rcases hq with hq | hq
  · obtain ⟨its, r', pl, hz⟩ := I.list hq
    have hlen := r'.length
    exact Calls.call_len_list pl.isList (by simp only [List.size_toArray] <;> (first | lia | omega)) ⟨.int ys.length, H, I.tok _, ⟨s.toks + 1, by rw [List.size_toArray, hlen]⟩, q⟩
  · obtain ⟨its, r', pl, hz⟩ := I.tuple hq
    have hlen := r'.length
    exact len_tuple pl (by simp only [List.size_toArray] <;> (first | lia | omega)) ⟨.int ys.length, H, I.tok _, ⟨s.toks + 1, by rw [List.size_toArray, hlen]⟩, q⟩
theorem call_list_of : CallR X (.type "list") (fun xs H Q => ∃ p ys, xs = [.ref p] ∧ (SqL X.K H p ys ∨ SqT X.K H p ys) ∧ ∀ l, H l = none → Q (.ref l) (upd H l (.lst ys))) := by
  intro pins s σ H xs us Q I r h
  obtain ⟨p, ys, rfl, hq, q⟩ := h
  obtain ⟨u, rfl, rx⟩ := vals1 r
  cases rx
  have fin : ∀ (its : List Value), Vals ys its → ys.length ≤ sizeLine → ∀ (h' : Heap) (c' : Nat), (∀ b o', s.heap.get? b = some o' → h'.get? b = some o') →
      h'.get? s.heap.objs.size = some { cls := .type "list", dict := none, data := .seq its.toArray c', slots := #[] } → EP X pins σ Q (.ref s.heap.objs.size) { s with heap := h' } := fun its r' hz h' c' kp e =>
    ⟨.ref s.heap.objs.size, _, I.laid (t' := s.toks) kp (Nat.le_refl _) (show ObjOk X.prog X.w _ h' _ (.lst ys) from ⟨hz, its, c', r', e⟩), rfl, q _ (I.hok.fresh (Nat.le_refl _))⟩
  rcases hq with hq | hq
  · obtain ⟨its, r', pl, hz⟩ := I.list hq
    have hlen := r'.length
    obtain ⟨o, ho, hc, n, hd⟩ := pl.isList
    exact call_list_seq p (.inl rfl) ho hc hd (fun h' c' kp e => fin its r' hz h' c' kp e) (by simp only [List.size_toArray] <;> (first | lia | omega))
  · obtain ⟨its, r', pl, hz⟩ := I.tuple hq
    have hlen := r'.length
    obtain ⟨o, ho, hc, n, hd⟩ := pl
    exact call_list_seq p (.inr rfl) ho hc hd (fun h' c' kp e => fin its r' hz h' c' kp e) (by simp only [List.size_toArray] <;> (first | lia | omega))
def tyV (K : PySem.W.Frag) (T : String) (x : V) (H : Hp) : Prop := match x with
  | .str _ => T = "str"
  | .int _ => T = "int"
  | .ref p => (T = "list" ∧ ∃ xs, SqL K H p xs) ∨ (T = "tuple" ∧ ∃ o, K.lookup p = some o ∧ o.cls = .type "tuple" ∧ o.dict = none) ∨
      (T = "dict" ∧ ((∃ kvs, H p = some (.dK kvs)) ∨ ∃ kvs, H p = some (.dT kvs))) ∨ (T = "set" ∧ ∃ S n, H p = some (.set S n))
  | _ => False
theorem tyV_is {pins : List (Addr × Obj)} {σ : St} {H : Hp} {s : Shared} {T : String} {x : V} {v : Value} (I : Inv X pins σ H s) (r : RelV x v) (ty : tyV X.K T x H) :
    s.TypeIs v T ∧ ∀ a, v = .ref a → ∃ ob, s.heap.get? a = some ob ∧ ob.dict = none := by
  cases x with
  | str z =>
    obtain ⟨t, rfl⟩ := r
    cases (show T = "str" from ty)
    exact ⟨typeIs_str s z t, fun _ e => nomatch e⟩
  | int i =>
    obtain ⟨t, rfl⟩ := r
    cases (show T = "int" from ty)
    exact ⟨typeIs_int s i t, fun _ e => nomatch e⟩
  | ref p =>
    cases r
    rcases ty with ⟨rfl, xs, hq⟩ | ⟨rfl, o, hk, hc, hd⟩ | ⟨rfl, hk⟩ | ⟨rfl, S, n, hk⟩
    · obtain ⟨its, _, pl, _⟩ := I.list hq
      refine ⟨pl.isList.typeIs, fun a e => ?_⟩
      cases e
      obtain ⟨o, n, e, c, hd, _⟩ := pl
      exact ⟨o, e, hd⟩
    · refine ⟨⟨o, I.kIn p o hk, hc⟩, fun a e => ?_⟩
      cases e
      exact ⟨o, I.kIn _ o hk, hd⟩
    · have z : ∃ o, s.heap.get? p = some o ∧ o.ExactDict := by
        rcases hk with ⟨kvs, hk⟩ | ⟨kvs, hk⟩
        · obtain ⟨_, _, _, _, o, _, _, e, ex, _⟩ := I.hok p _ hk
          exact ⟨o, e, ex⟩
        · obtain ⟨_, _, _, _, o, _, _, e, ex, _⟩ := I.hok p _ hk
          exact ⟨o, e, ex⟩
      obtain ⟨o, e, ex⟩ := z
      refine ⟨⟨o, e, ex.1⟩, fun a e2 => ?_⟩
      cases e2
      exact ⟨o, e, ex.2.1⟩
    · obtain ⟨o, _, _, _, e, ex, _⟩ := I.hok p _ hk
      refine ⟨⟨o, e, ex.1⟩, fun a e2 => ?_⟩
      cases e2
      exact ⟨o, e, ex.2.1⟩
  | _ => exact False.elim ty
@[reducible] def tBM0 (K : PySem.W.Frag) (T : String) (r : V → List V → Hp → VK → Prop) (to : TE) : TE := fun σ H Q => to σ H fun x H1 => tyV K T x H1 ∧ r x [] H1 Q
@[reducible] def tBM (K : PySem.W.Frag) (T : String) (r : V → List V → Hp → VK → Prop) (to : TE) (t : TA) : TE := fun σ H Q => to σ H fun x H1 => tyV K T x H1 ∧ t σ H1 fun xs H2 => r x xs H2 Q
variable {o e : Expr} {es : List Expr} {to : TE} {t : TA} {name : Str} {apos cpos : Pos} {T id : String} {r : V → List V → Hp → VK → Prop}
theorem pe_bm0 (pa : PlainAttrs T) (slot : Slot T name id) (hty : typeOf (.builtin id) = pure (.type "method_descriptor")) (hm : MtR X id r) (ho : PE X o to)
    (hbase : attributeBase o name X.env (eval o X.env) = eval o X.env := by rfl) (hline : (apos.endLine == cpos.line) = true := by rfl) : PE X (.Call (.Attribute o name apos) [] [] cpos) (tBM0 X.K T r to) := by
  intro pins s σ H Q I h
  refine wpAny_Call_method0_late hbase hline (thn (ho pins s σ H _ I h) fun v s1 ⟨x, H1, I1, r1, ty, q1⟩ => ?_)
  obtain ⟨h1, h2⟩ := tyV_is I1 r1 ty
  exact ⟨T, id, pa, slot, hty, h1, h2, Calls.callWith_builtin rfl (PySem.evalArgs_none (hm pins s1 σ H1 x [] v [] Q I1 r1 .nil q1))⟩
theorem pe_bm (pa : PlainAttrs T) (slot : Slot T name id) (hty : typeOf (.builtin id) = pure (.type "method_descriptor")) (hm : MtR X id r) (ho : PE X o to) (ha : PA X (e :: es) t)
    (hbase : attributeBase o name X.env (eval o X.env) = eval o X.env := by rfl)
    (hfew : ((backTo cpos (starEach (e :: es) X.env)).all (fun x => !x.1) && (backToKw cpos (keywordEach [] X.env)).all (fun x => x.1.isSome)
      && decide ((e :: es).length + ([] : List Keyword).length + (if ([] : List Keyword).isEmpty then 0 else 1) < 30)) = true := by rfl)
    (hline : (apos.endLine == cpos.line) = true := by rfl) (hs : starEach (e :: es) X.env = (false, eval e X.env) :: starEach es X.env := by rfl) (hplain : (backTo cpos (starEach es X.env)).any (·.1) = false := by rfl) :
    PE X (.Call (.Attribute o name apos) (e :: es) [] cpos) (tBM X.K T r to t) := by
  intro pins s σ H Q I h
  refine wpAny_Call_method_late hbase hfew hline rfl (thn (ho pins s σ H _ I h) fun v s1 ⟨x, H1, I1, r1, ty, q1⟩ => ?_)
  obtain ⟨h1, h2⟩ := tyV_is I1 r1 ty
  refine ⟨T, id, pa, slot, hty, h1, h2, ?_⟩
  have hA := ha cpos pins s1 σ H1 _ I1 q1
  rw [hs] at hA ⊢
  refine Calls.callWith_builtin (by show (false || (backTo cpos (starEach es X.env)).any (·.1)) = false; rw [hplain] <;> rfl) (Calls.evalArgs_plain ?_)
  exact thn hA fun us s2 ⟨vs, H2, I2, r2, q2⟩ => hm pins s2 σ H2 x vs v us Q I2 r1 r2 q2
/- xs.append(e), list.index on a module's tuple .. are MtR facts of 06m -/
end
end L2
namespace L2
open PySem PySem.Spec PyProof.Rows
def MtM (X : Cx) (id : String) (r : V → List V → Hp → VK → Prop) : Prop :=
  ∀ (pins : List (Addr × Obj)) (s : Shared) (σ : St) (H : Hp) (x : V) (xs : List V) (v : Value) (us : List Value) (Q : VK), Inv X pins σ H s → RelV x v → Vals xs us → r x xs H Q →
    wpAny (model X.prog X.w) X.A (call (.builtin id) (v :: us)) (EP X pins σ Q) X.xe s
theorem Vals.one : ∀ {x : V} {us : List Value}, Vals [x] us → ∃ u, us = [u] ∧ RelV x u
  | _, _, .cons r .nil => ⟨_, rfl, r⟩
theorem Vals.zero : ∀ {us : List Value}, Vals [] us → us = []
  | _, .nil => rfl
theorem Vals.dropLast {xs : List V} {us : List Value} (h : Vals xs us) : Vals xs.dropLast us.dropLast := by
  induction h with
  | nil => exact .nil
  | cons r t ih =>
    cases t with
    | nil => exact .nil
    | cons q t' => exact .cons r ih
theorem erase_last {α : Type} (l : List α) : l.eraseIdx (l.length - 1) = l.dropLast := by
  induction l with
  | nil => rfl
  | cons a r ih =>
    cases r with
    | nil => rfl
    | cons b r =>
      have e : (a :: b :: r).length - 1 = ((b :: r).length - 1) + 1 := by
        have h1 : (a :: b :: r).length = r.length + 2 := rfl
        have h2 : (b :: r).length = r.length + 1 := rfl
        (first | lia | omega)
      rw [e, List.eraseIdx_cons_succ, ih]
      all_goals rfl
section
variable {X : Cx} {pins : List (Addr × Obj)} {σ : St} {H : Hp} {s : Shared} {l b : Addr} {xs ys zs : List V}
theorem Inv.lset {its its' : List Value} {n : Nat} {f : Array Value → Array Value} {t' : Nat} (I : Inv X pins σ H s) (hH : H l = some (.lst xs))
    (e : s.heap.get? l = some { cls := .type "list", data := .seq its.toArray n }) (hf : f its.toArray = its'.toArray) (hv : Vals ys its') (hz : ys.length ≤ sizeLine) :
    Inv X pins σ (upd H l (.lst ys)) { s with heap := s.heap.update l (Obj.mapSeq f), toks := t' } := by
  have q := PySem.IsL.update e f
  rw [hf] at q
  refine I.write (x := l) (e := l) (by rw [hH]; exact trivial) (.inl rfl) (fun b' u hb hu => (Heap.get?_update_other s.heap (Obj.mapSeq f) (Ne.symm hb)).trans hu) ⟨_, q⟩ ?_
  exact ⟨hz, its', _, hv, q⟩
theorem Inv.lstM (I : Inv X pins σ H s) (hH : H l = some (.lst xs)) : xs.length ≤ sizeLine ∧ ∃ (its : List Value) (n : Nat), Vals xs its ∧ xs.length = its.length ∧ s.heap.get? l = some { cls := .type "list", data := .seq its.toArray n } := by
  obtain ⟨z, its, n, r, e⟩ := I.hok l _ hH
  exact ⟨z, its, n, r, r.length, e⟩
theorem notLongL {n : Nat} (h : n ≤ sizeLine) : Builtin.List.listTooLong n = false := by
  unfold Builtin.List.listTooLong
  exact decide_eq_false (by (first | lia | omega))
end
section
variable {X : Cx}
def rAppend : V → List V → Hp → VK → Prop := fun x vs H Q => ∃ l xs y, x = .ref l ∧ vs = [y] ∧ H l = some (.lst xs) ∧ xs.length < sizeLine ∧ Q .non (upd H l (.lst (xs ++ [y])))
theorem mt_append : MtM X "list.append" rAppend := by
  intro pins s σ H x vs v us Q I rx rv h
  obtain ⟨l, xs, y, rfl, rfl, hH, hz, q⟩ := h
  cases rx
  obtain ⟨u, rfl, ru⟩ := rv.one
  obtain ⟨z, its, n, r, hl, e⟩ := I.lstM hH
  refine call_meets F.slot_list_append ⟨_, e, rfl⟩ F.entry_list_append (F.args_list_append_2 _ _) (PySem.list_append l its.toArray n u (by rw [List.size_toArray]; (first | lia | omega))) ⟨e, ?_⟩
  refine ⟨.non, _, I.lset (its' := its ++ [u]) hH e (by simp) (r.append (.cons ru .nil)) ?_, rfl, q⟩
  rw [List.length_append, List.length_singleton]
  (first | lia | omega)
def rExtend : V → List V → Hp → VK → Prop := fun x vs H Q => ∃ l b xs zs, x = .ref l ∧ vs = [.ref b] ∧ H l = some (.lst xs) ∧ H b = some (.lst zs) ∧ xs.length + zs.length ≤ sizeLine ∧ Q .non (upd H l (.lst (xs ++ zs)))
theorem mt_extend : MtM X "list.extend" rExtend := by
  intro pins s σ H x vs v us Q I rx rv h
  obtain ⟨l, b, xs, zs, rfl, rfl, hH, hB, hz, q⟩ := h
  cases rx
  obtain ⟨u, rfl, ru⟩ := rv.one
  cases ru
  obtain ⟨z, its, n, r, hl, e⟩ := I.lstM hH
  obtain ⟨z2, its2, n2, r2, hl2, e2⟩ := I.lstM hB
  have hsz : its.toArray.size + its2.toArray.size ≤ sizeLine := by rw [List.size_toArray, List.size_toArray]; (first | lia | omega)
  have hlong : ¬ (!its.toArray.isEmpty && Builtin.List.listTooLong (its.toArray.size + its2.toArray.size)) = true := by
    rw [notLongL hsz, Bool.and_false]
    exact Bool.false_ne_true
  refine call_meets F.slot_list_extend ⟨_, e, rfl⟩ F.entry_list_extend (F.args_list_extend_2 _ _)
    (AutoSeq1.list_extend_list_list_0 l its.toArray n b its2.toArray n2 hlong (by rw [List.size_toArray]; (first | lia | omega)) (by (first | lia | omega))) ⟨e, e2, ?_⟩
  refine ⟨.non, _, I.lset (its' := its ++ its2) hH e (by simp) (r.append r2) ?_, rfl, q⟩
  rw [List.length_append]
  (first | lia | omega)
def rPop : V → List V → Hp → VK → Prop := fun x vs H Q => ∃ l xs y, x = .ref l ∧ vs = [] ∧ H l = some (.lst xs) ∧ xs[xs.length - 1]? = some y ∧ Q y (upd H l (.lst xs.dropLast))
theorem mt_pop : MtM X "list.pop" rPop := by
  intro pins s σ H x vs v us Q I rx rv h
  obtain ⟨l, xs, y, rfl, rfl, hH, hy, q⟩ := h
  cases rx
  have hus := rv.zero
  subst hus
  obtain ⟨z, its, n, r, hl, e⟩ := I.lstM hH
  obtain ⟨u, hu, ru⟩ := r.get hy
  have hy' : its.toArray[its.toArray.size - 1]? = some u := by
    show its.toArray[its.length - 1]? = some u
    rw [← Array.getElem?_toList, ← hl]
    exact hu
  refine call_meets F.slot_list_pop ⟨_, e, rfl⟩ F.entry_list_pop (F.args_list_pop_1 _) (MeetsSeq.list_pop_last l its.toArray n u hy' (by rw [List.size_toArray]; (first | lia | omega))) ⟨e, ?_⟩
  refine ⟨y, _, I.lset (its' := its.dropLast) hH e ?_ r.dropLast ?_, ru, q⟩
  · show its.toArray.eraseIdxIfInBounds (its.toArray.size - 1) = its.dropLast.toArray
    rw [List.size_toArray, List.eraseIdxIfInBounds_toArray, erase_last]
  · rw [List.length_dropLast]
    (first | lia | omega)
end
section
variable {prog : Program} {w : World} {A : Around} {E : Value → Shared → Prop} {s : Shared}
set_option maxRecDepth 100000 in
end
section
variable {X : Cx}
end
end L2
namespace L2
open PySem PySem.Spec PyProof.Rows
theorem Vals.ints : ∀ {ns : List Int} {us : List Value}, Vals (ns.map V.int) us → IntsAre us ns
  | [], us, h => by
    rw [List.map_nil] at h
    cases h
    exact IntsAre.nil
  | n :: ns, us, h => by
    rw [List.map_cons] at h
    cases h with
    | cons r t =>
      obtain ⟨k, rfl⟩ := r
      exact IntsAre.cons n k (Vals.ints t)
theorem Vals.bls : ∀ {bs : List Bool} {us : List Value}, Vals (bs.map V.bl) us → us = bs.map Value.bool
  | [], us, h => by
    rw [List.map_nil] at h
    cases h
    rfl
  | b :: bs, us, h => by
    rw [List.map_cons] at h
    cases h with
    | cons r t =>
      cases r
      rw [Vals.bls t, List.map_cons]
theorem Vals.ref1 {a : Addr} {us : List Value} (r : Vals [V.ref a] us) : us = [Value.ref a] := by
  cases r with
  | cons r t =>
    cases t
    cases r
    rfl
section
variable {prog : Program} {w : World} {A : Around} {E : Value → Shared → Prop} {s : Shared} {l : Addr} {its : List Value} {ns : List Int} {Q : Value → Shared → Prop}
end
section
variable {X : Cx}
end
section
variable {X : Cx}
end
section
variable {X : Cx}
end
theorem iter_any {prog : Program} {w : World} {A : Around} {E : Value → Shared → Prop} {s : Shared} {l : Addr} {items : Array Value} {Q : Value → Shared → Prop} (hl : s.heap.IsList l items)
    (h : ∀ s₂ : Shared, s₂ = { s with heap := s.heap.push { cls := .type "list_iterator", data := .fields #[.ref l, .int 0 0] } } →
      (s₂.heap.IsListIter s.heap.objs.size l 0 ∧ s₂.heap.IsList l items) → l ≠ s.heap.objs.size → Q (.ref s.heap.objs.size) s₂) : wpAny (model prog w) A (pyIter (.ref l)) Q E s := by
  have hlt : l < s.heap.objs.size := by obtain ⟨_, e, _⟩ := hl; exact Heap.lt_size e
  exact wpAny_pyIter_list hl (h _ rfl ⟨⟨_, Heap.get?_push_size _ rfl, rfl, rfl⟩, hl.push _⟩ (Nat.ne_of_lt hlt))
theorem truth_bools {prog : Program} {w : World} {A : Around} {bs : List Bool} {its : List Value} (e : its = bs.map Value.bool) :
    TruthOf prog w A (fun i v => its.toArray[i]? = some v) (fun i => bs.getD i false) := fun i v s Q E hv hq => by
  have hv' : its[i]? = some v := by simpa using hv
  rw [e, List.getElem?_map] at hv'
  obtain ⟨b, hb, rfl⟩ := Option.map_eq_some_iff.mp hv'
  have hg : bs.getD i false = b := by rw [List.getD_eq_getElem?_getD, hb] <;> rfl
  have hq' : Q (bs.getD i false) s := hq
  rw [hg] at hq'
  exact wpAny_truthy_bool hq'
theorem any_range : ∀ bs : List Bool, (List.range bs.length).any (fun i => bs.getD i false) = bs.any id
  | [] => rfl
  | b :: bs => by
    rw [List.length_cons, List.range_succ_eq_map, List.any_cons, List.any_map, List.any_cons, ← any_range bs]
    all_goals rfl
section
variable {X : Cx}
def rAny (K : PySem.W.Frag) : List V → Hp → VK → Prop := fun vs H Q => ∃ (a : Addr) (bs : List Bool), vs = [V.ref a] ∧ SqL K H a (bs.map V.bl) ∧ Q (.bl (bs.any id)) H
theorem cr_any (hc : X.calm = true) : CallR X (.builtin "any") (rAny X.K) := by
  intro pins s σ H vs us Q I r h
  obtain ⟨a, bs, rfl, hs, q⟩ := h
  obtain ⟨its, rv, hl, _⟩ := I.list hs
  rw [Vals.ref1 r]
  have hb := rv.bls
  refine call_any_walk (iter_any hl.isList fun s₂ e2 st hne => ?_)
  subst e2
  refine ⟨_, _, _, _, _, _, _, rfl, Walks.list (A := X.A.in1) (I.ok.hd hc) _ a hne its.toArray, st, truth_bools hb, fun h' tk hk => ?_⟩
  refine ⟨.bl _, H, I.kept fun b o eo => hk b o (fun hmem => ?_) (Heap.get?_push_of_some _ eo), ?_, q⟩
  · rcases List.mem_cons.mp hmem with e1 | hmem
    · exact absurd (e1 ▸ Heap.lt_size eo) (Nat.lt_irrefl _)
    · cases hmem
  · show Value.bool _ = Value.bool _
    rw [← any_range, hb, List.size_toArray, List.length_map]
end
section
variable {X : Cx} {pins : List (Addr × Obj)} {σ : St} {H : Hp} {s : Shared}
end
section
variable {X : Cx}
end
end L2
namespace L2
open PySem PySem.Spec PyProof.Rows
abbrev CellAt (h : Heap) (c : Addr) (v : Option Value) : Prop := h.IsCell c v
def relS (scope sc : Scope) : Scope :=
  { scope with names := scope.names.map fun (n, k) => if (k == .free && sc.kind == .function && sc.names.lookup n == some .cell) then (n, .cell) else (n, k) }
def cloFrom (cells : List (Str × Addr)) : List (Str × NameKind) → List (Str × Addr) → List (Str × Addr)
  | [], acc => acc
  | (n, k) :: r, acc => if k == .free then cloFrom cells r ((n, (cells.lookup n).getD 0) :: acc) else cloFrom cells r acc
theorem closure_loop (env : Env) (f : Str × NameKind → List (Str × Addr) → Sem (ForInStep (List (Str × Addr))))
    (hf : ∀ n k c, f (n, k) c = if k == .free then (do let a ← cellOf env n; pure (.yield ((n, a) :: c))) else pure (.yield c)) :
    ∀ (names : List (Str × NameKind)) (acc : List (Str × Addr)), (∀ y ∈ names, y.2 = .free → ∃ c, env.cells.lookup y.1 = some c) → forIn names acc f = pure (cloFrom env.cells names acc)
  | [], acc, _ => by rw [List.forIn_nil]; rfl
  | (n, k) :: r, acc, h => by
    rw [List.forIn_cons, hf]
    have ih := fun acc => closure_loop env f hf r acc fun y hy => h y (List.mem_cons_of_mem _ hy)
    unfold cloFrom
    by_cases hk : (k == NameKind.free) = true
    · rw [if_pos hk, if_pos hk]
      obtain ⟨c, hc⟩ := h (n, k) List.mem_cons_self (by simpa using hk)
      have e : cellOf env n = pure c := by unfold cellOf; rw [hc]
      rw [e]
      have e2 : (env.cells.lookup n).getD 0 = c := by rw [hc]; rfl
      rw [e2]
      exact ih _
    · rw [if_neg hk, if_neg hk]
      exact ih _
theorem closure_ok {scope : Scope} {env : Env} (h : ∀ y ∈ scope.names, y.2 = .free → ∃ c, env.cells.lookup y.1 = some c) : closureFor scope env = pure (cloFrom env.cells scope.names []) := by
  simp only [closureFor]
  rw [closure_loop env _ (fun n k c => rfl) scope.names [] h]
  rfl
theorem mem_lookup {α : Type} : ∀ {l : List (Str × α)} {n : Str} {c : α}, (n, c) ∈ l → ∃ c', l.lookup n = some c'
  | (k, v) :: r, n, c, h => by
    rw [List.lookup_cons]
    cases hb : n == k with
    | true => exact ⟨_, rfl⟩
    | false =>
      rcases List.mem_cons.mp h with e | h
      · cases e; simp at hb
      · exact mem_lookup h
theorem cloFrom_mem {cells : List (Str × Addr)} : ∀ {names : List (Str × NameKind)} {acc : List (Str × Addr)} {n : Str} {c : Addr}, (n, c) ∈ cloFrom cells names acc → (n, c) ∈ acc ∨ ((n, .free) ∈ names ∧ c = (cells.lookup n).getD 0)
  | [], _, _, _, h => .inl h
  | (m, k) :: r, acc, n, c, h => by
    unfold cloFrom at h
    split at h
    · rename_i hk
      have hk : k = .free := by simpa using hk
      rcases cloFrom_mem h with h | ⟨h1, h2⟩
      · rcases List.mem_cons.mp h with e | h
        · cases e; exact .inr ⟨hk ▸ List.mem_cons_self, rfl⟩
        · exact .inl h
      · exact .inr ⟨List.mem_cons_of_mem _ h1, h2⟩
    · rcases cloFrom_mem h with h | ⟨h1, h2⟩
      · exact .inl h
      · exact .inr ⟨List.mem_cons_of_mem _ h1, h2⟩
theorem cloFrom_acc {cells : List (Str × Addr)} : ∀ {names : List (Str × NameKind)} {acc : List (Str × Addr)} {p : Str × Addr}, p ∈ acc → p ∈ cloFrom cells names acc
  | [], _, _, h => h
  | (m, k) :: r, acc, p, h => by
    unfold cloFrom
    split
    · exact cloFrom_acc (List.mem_cons_of_mem _ h)
    · exact cloFrom_acc h
theorem cloFrom_has {cells : List (Str × Addr)} : ∀ {names : List (Str × NameKind)} {acc : List (Str × Addr)} {n : Str}, (n, .free) ∈ names → (n, (cells.lookup n).getD 0) ∈ cloFrom cells names acc
  | (m, k) :: r, acc, n, h => by
    unfold cloFrom
    rcases List.mem_cons.mp h with e | h
    · cases e
      exact cloFrom_acc List.mem_cons_self
    · split
      · exact cloFrom_has h
      · exact cloFrom_has h
theorem cells_mem : ∀ {names : List (Str × NameKind)} {h : Heap} {acc : List (Str × Addr)} {x : Str} {c : Addr}, (x, c) ∈ cellsFrom h.objs.size names acc →
    (x, c) ∈ acc ∨ ((x, .cell) ∈ names ∧ h.objs.size ≤ c ∧ CellAt (pushCells h names) c none)
  | [], _, _, _, _, h => .inl h
  | (n, k) :: r, h, acc, x, c, hm => by
    unfold cellsFrom at hm
    unfold pushCells
    split at hm
    · rename_i hk
      rw [if_pos hk]
      have hk : k = .cell := by simpa using hk
      rw [← Heap.size_push h { cls := .type "cell", data := .cell none }] at hm
      rcases cells_mem hm with hm | ⟨h1, h2, h3⟩
      · rcases List.mem_cons.mp hm with e | hm
        · cases e
          exact .inr ⟨hk ▸ List.mem_cons_self, Nat.le_refl _, _, pushCells_keeps r _ _ _ (Heap.get?_push_size _ rfl), rfl⟩
        · exact .inl hm
      · rw [Heap.size_push] at h2
        exact .inr ⟨List.mem_cons_of_mem _ h1, Nat.le_of_succ_le h2, h3⟩
    · rename_i hk
      rw [if_neg hk]
      rcases cells_mem hm with hm | ⟨h1, h2, h3⟩
      · exact .inl hm
      · exact .inr ⟨List.mem_cons_of_mem _ h1, h2, h3⟩
theorem cells_acc : ∀ {names : List (Str × NameKind)} {n : Nat} {acc : List (Str × Addr)} {p : Str × Addr}, p ∈ acc → p ∈ cellsFrom n names acc
  | [], _, _, _, h => h
  | (m, k) :: r, n, acc, p, h => by
    unfold cellsFrom
    split
    · exact cells_acc (List.mem_cons_of_mem _ h)
    · exact cells_acc h
theorem cells_has : ∀ {names : List (Str × NameKind)} {n : Nat} {acc : List (Str × Addr)} {x : Str}, (x, .cell) ∈ names → ∃ c, (x, c) ∈ cellsFrom n names acc
  | (m, k) :: r, n, acc, x, h => by
    unfold cellsFrom
    rcases List.mem_cons.mp h with e | h
    · cases e
      exact ⟨n, cells_acc List.mem_cons_self⟩
    · split
      · exact cells_has h
      · exact cells_has h
theorem cells_inj : ∀ {names : List (Str × NameKind)} {h : Heap} {acc : List (Str × Addr)} {x y : Str} {c : Addr}, (∀ p ∈ acc, p.2 < h.objs.size) → (∀ x y c, (x, c) ∈ acc → (y, c) ∈ acc → x = y) →
    (x, c) ∈ cellsFrom h.objs.size names acc → (y, c) ∈ cellsFrom h.objs.size names acc → x = y
  | [], _, _, _, _, _, _, hi, h1, h2 => hi _ _ _ h1 h2
  | (n, k) :: r, h, acc, x, y, c, hl, hi, h1, h2 => by
    unfold cellsFrom at h1 h2
    split at h1
    · rename_i hk
      rw [if_pos hk] at h2
      rw [← Heap.size_push h { cls := .type "cell", data := .cell none }] at h1 h2
      refine cells_inj (h := h.push _) (fun p hp => ?_) (fun x y c a b => ?_) h1 h2
      · rw [Heap.size_push]
        rcases List.mem_cons.mp hp with rfl | hp
        · exact Nat.lt_succ_self _
        · exact Nat.lt_succ_of_lt (hl p hp)
      · rcases List.mem_cons.mp a with e | a <;> rcases List.mem_cons.mp b with e' | b
        · cases e; cases e'; rfl
        · cases e; exact absurd (hl _ b) (Nat.lt_irrefl _)
        · cases e'; exact absurd (hl _ a) (Nat.lt_irrefl _)
        · exact hi _ _ _ a b
    · rename_i hk
      rw [if_neg hk] at h2
      exact cells_inj hl hi h1 h2
theorem newEnv_comp {M : Model} {A : Around} {E : Value → Shared → Prop} {s : Shared} {scope : Scope} {globals : Addr} {closure : List (Str × Addr)} {qual : Str} {func : Option Addr} {code : Value} {around : Env} {builtins : Addr} {Q : Env → Shared → Prop}
    (h : Q (newEnv scope s.heap.objs.size globals (cellsFrom (s.heap.objs.size + 1) scope.names closure) qual func code (some around) builtins)
      { s with heap := pushCells (s.heap.push { cls := .type "dict", data := .dict #[] }) scope.names }) :
    wpAny M A (newFunctionEnv scope globals closure [] qual func code (some around) builtins) Q E s := by
  simp only [newFunctionEnv, Option.isSome_some, if_true]
  refine wpAny_bind (wpAny_alloc ?_)
  refine wpAny_bind (wpAny_layCells _ (fun n k c => rfl) scope.names closure _ _ ?_)
  rw [show ({ s with heap := s.heap.push { cls := .type "dict", data := .dict #[] } } : Shared).heap.objs.size = s.heap.objs.size + 1 from Heap.size_push ..]
  rw [List.forIn_nil]
  exact wpAny_bind (wpAny_pure (wpAny_pure h))
theorem lookup_relS {sc : Scope} : ∀ {names : List (Str × NameKind)} {x : Str} {k : NameKind},
    (names.map fun (n, k) => if (k == NameKind.free && sc.kind == .function && sc.names.lookup n == some .cell) then (n, NameKind.cell) else (n, k)).lookup x = some k →
    ∃ k', names.lookup x = some k' ∧ (k = k' ∨ (k' = .free ∧ k = .cell))
  | [], _, _, h => by simp at h
  | (n, k₀) :: r, x, k, h => by
    have ih := @lookup_relS sc r x k
    have h' : List.lookup x ((if (k₀ == NameKind.free && sc.kind == .function && sc.names.lookup n == some .cell) = true then (n, NameKind.cell) else (n, k₀)) :: (r.map _)) = some k := h
    cases hx : x == n with
    | true =>
      simp only [List.lookup_cons, hx]
      by_cases hc : (k₀ == NameKind.free && sc.kind == .function && sc.names.lookup n == some .cell) = true
      · rw [if_pos hc] at h'
        simp only [List.lookup_cons, hx] at h'
        cases h'
        simp only [Bool.and_eq_true, beq_iff_eq] at hc
        exact ⟨k₀, rfl, .inr ⟨hc.1.1, rfl⟩⟩
      · rw [if_neg hc] at h'
        simp only [List.lookup_cons, hx] at h'
        cases h'
        exact ⟨_, rfl, .inl rfl⟩
    | false =>
      simp only [List.lookup_cons, hx]
      by_cases hc : (k₀ == NameKind.free && sc.kind == .function && sc.names.lookup n == some .cell) = true
      · rw [if_pos hc] at h'
        simp only [List.lookup_cons, hx] at h'
        exact ih h'
      · rw [if_neg hc] at h'
        simp only [List.lookup_cons, hx] at h'
        exact ih h'
structure BlkOk (N : List Str) (sc scope : Scope) (own : List (Str × Nat)) : Prop where
  kind : scope.kind = .function
  uniq : ∀ y ∈ scope.names, scope.names.lookup y.1 = some y.2
  ix : ∀ p ∈ own, N[p.2]? = some p.1
  free : ∀ y ∈ scope.names, y.2 = .free → sc.names.lookup y.1 = some .cell ∨ sc.names.lookup y.1 = some .free
  own : ∀ y ∈ scope.names, y.2 = .local ∨ y.2 = .cell → y.1 ∈ own.map (·.1) ∨ y.1 ∉ N
def wipe (σ : St) : List Nat → St
  | [] => σ
  | v :: vs => (wipe σ vs).set v none
theorem wipe_length (σ : St) : ∀ vs : List Nat, (wipe σ vs).length = σ.length
  | [] => rfl
  | v :: vs => by unfold wipe; rw [List.length_set, wipe_length σ vs]
theorem wipe_some {σ : St} {i : Nat} {x : V} : ∀ {vs : List Nat}, (wipe σ vs)[i]? = some (some x) → σ[i]? = some (some x) ∧ i ∉ vs
  | [], h => ⟨h, by simp⟩
  | v :: vs, h => by
    unfold wipe at h
    by_cases hi : v = i
    · subst hi
      by_cases hv : v < (wipe σ vs).length
      · rw [List.getElem?_set_self hv] at h; cases h
      · rw [List.getElem?_eq_none (by simpa using hv)] at h; cases h
    · rw [List.getElem?_set_ne hi] at h
      obtain ⟨h1, h2⟩ := wipe_some h
      exact ⟨h1, by simp only [List.mem_cons, not_or]; exact ⟨fun e => hi e.symm, h2⟩⟩
abbrev Cx.blk (X : Cx) (s : Shared) (H : Hp) (scope : Scope) (cenv : Env) (fp : List Addr) : Cx := { X with s_0 := s, H_0 := H, env := cenv, outer := X.stack, ex := fp, fn := fun x => scope.names.lookup x == some .cell, pn := [], xe := fun _ _ => False }
section
variable {X : Cx} {pins : List (Addr × Obj)} {σ : St} {H : Hp} {s : Shared}
theorem block_start {scope : Scope} {own : List (Str × Nat)} {fp : List Addr} (I : Inv X pins σ H s) (ok : BlkOk X.N X.env.scope scope own) (hN : X.N.Nodup) (hfp : ∀ b ∈ fp, FpOk X pins H b ∧ b < s.heap.objs.size) :
    Inv (X.blk s H scope (compEnvC scope (cellsFrom (s.heap.objs.size + 1) scope.names (cloFrom X.env.cells scope.names [])) s.heap.objs.size X.env) fp) [] (wipe σ (own.map (·.2))) H { s with heap := pushCells (s.heap.push { cls := .type "dict", data := .dict #[] }) scope.names } := by
  have hfree : ∀ y ∈ scope.names, y.2 = .free → ∃ c, X.env.cells.lookup y.1 = some c := fun y hy e => by
    rcases ok.free y hy e with k | k
    · exact I.ok.has _ (.inl k)
    · exact I.ok.has _ (.inr k)
  generalize hcenv : compEnvC scope (cellsFrom (s.heap.objs.size + 1) scope.names (cloFrom X.env.cells scope.names [])) s.heap.objs.size X.env = cenv
  have kp : ∀ b o, s.heap.get? b = some o → (pushCells (s.heap.push { cls := .type "dict", data := .dict #[] }) scope.names).get? b = some o := fun b o e => pushCells_keeps _ _ _ _ (Heap.get?_push_of_some _ e)
  have hL : cenv.locals = s.heap.objs.size := by rw [← hcenv]; rfl
  have hcl : cenv.cells = cellsFrom (s.heap.objs.size + 1) scope.names (cloFrom X.env.cells scope.names []) := by rw [← hcenv]; rfl
  have hsc : cenv.scope = relS scope X.env.scope := by rw [← hcenv]; rfl
  rw [← Heap.size_push s.heap { cls := .type "dict", data := .dict #[] }] at hcl
  have cm : ∀ {y c}, (y, c) ∈ cloFrom X.env.cells scope.names [] → X.env.cells.lookup y = some c ∧ c < s.heap.objs.size := fun {y c} hm => by
    rcases cloFrom_mem hm with hm | ⟨h1, rfl⟩
    · cases hm
    · obtain ⟨c, hc⟩ := hfree _ h1 rfl
      rw [hc]
      obtain ⟨w, z⟩ := I.cell _ _ hc
      exact ⟨rfl, z.lt⟩
  have mem : ∀ {y c}, cenv.cells.lookup y = some c → (X.env.cells.lookup y = some c ∧ c < s.heap.objs.size) ∨ (s.heap.objs.size + 1 ≤ c ∧ CellAt (pushCells (s.heap.push { cls := .type "dict", data := .dict #[] }) scope.names) c none) := fun {y c} e => by
    rw [hcl] at e
    rcases cells_mem (PySem.mem_of_lookup e) with hm | ⟨_, h2, h3⟩
    · exact .inl (cm hm)
    · rw [Heap.size_push] at h2; exact .inr ⟨h2, h3⟩
  have look : ∀ {y}, scope.names.lookup y = some .free → ∃ c, cenv.cells.lookup y = some c ∧ X.env.cells.lookup y = some c := fun {y} hl => by
    have hy : (y, NameKind.free) ∈ scope.names := PySem.mem_of_lookup hl
    obtain ⟨c', e'⟩ := mem_lookup (cells_acc (names := scope.names) (n := (s.heap.push { cls := .type "dict", data := .dict #[] }).objs.size) (cloFrom_has (cells := X.env.cells) (acc := []) hy))
    rw [← hcl] at e'
    refine ⟨c', e', ?_⟩
    rw [hcl] at e'
    rcases cells_mem (PySem.mem_of_lookup e') with hm | ⟨h1, _, _⟩
    · exact (cm hm).1
    · have := ok.uniq _ h1
      rw [hl] at this; cases this
  have okB : (X.blk s H scope cenv fp).Ok := by
    refine ⟨I.ok.mod, by show cenv.scope.kind = _; rw [hsc]; exact ok.kind, by show cenv.globals = _; rw [← hcenv]; exact I.ok.glob, by show cenv.builtins = _; rw [← hcenv]; exact I.ok.blt, by show s.heap.objs.size ≤ cenv.locals; rw [hL]; exact Nat.le_refl _,
      fun y z c e1 e2 => ?_, fun y hy => ?_, fun y c z e => ?_, I.ok.hd, I.ok.frames, .inl rfl, fun b hb => ⟨?_, fun y c e z => ?_⟩, I.bs, Nat.le_trans I.ok.bsz I.sz, fun b o e hb => ?_, fun b hb z => ?_, I.stack, I.stkFree⟩
    · have e1 : cenv.cells.lookup y = some c := e1
      have e2 : cenv.cells.lookup z = some c := e2
      rw [hcl] at e1 e2
      refine cells_inj (fun p hp => ?_) (fun y z c a b => I.ok.inj y z c (cm a).1 (cm b).1) (PySem.mem_of_lookup e1) (PySem.mem_of_lookup e2)
      rw [Heap.size_push]
      exact Nat.lt_succ_of_lt (cm (y := p.1) (c := p.2) hp).2
    · show ∃ c, cenv.cells.lookup y = some c
      have key : ∀ k, cenv.kindOf y = some k → (k = .cell ∨ k = .free) → ∃ c, cenv.cells.lookup y = some c := fun k hk hk' => by
        unfold Env.kindOf at hk
        rw [hsc] at hk
        obtain ⟨k', e, r⟩ := lookup_relS hk
        have : k' = .cell ∨ k' = .free := by
          rcases r with rfl | ⟨rfl, _⟩
          · exact hk'
          · exact .inr rfl
        rcases this with rfl | rfl
        · obtain ⟨c, hm⟩ := cells_has (n := (s.heap.push { cls := .type "dict", data := .dict #[] }).objs.size) (acc := cloFrom X.env.cells scope.names []) (PySem.mem_of_lookup e)
          obtain ⟨c', e'⟩ := mem_lookup hm
          exact ⟨c', by rw [hcl]; exact e'⟩
        · obtain ⟨c, h1, _⟩ := look e
          exact ⟨c, h1⟩
      rcases hy with hy | hy
      · exact key _ hy (.inl rfl)
      · exact key _ hy (.inr rfl)
    · have z : (scope.names.lookup y == some NameKind.cell) = true := z
      have z : scope.names.lookup y = some .cell := by simpa using z
      have e : cenv.cells.lookup y = some c := e
      rw [hcl] at e
      rcases cells_mem (PySem.mem_of_lookup e) with hm | ⟨_, h2, _⟩
      · rcases cloFrom_mem hm with hm | ⟨h1, _⟩
        · cases hm
        · have q := ok.uniq _ h1
          rw [z] at q; cases q
      · rw [Heap.size_push] at h2
        exact Nat.le_of_succ_le h2
    · show b ≠ cenv.locals
      rw [hL]; exact Nat.ne_of_lt (hfp b hb).2
    · have e : cenv.cells.lookup y = some c := e
      rcases mem e with ⟨h1, _⟩ | ⟨h1, _⟩
      · exact (hfp b hb).1.2.2.2.2.1 y c h1 z
      · have h2 : s.heap.objs.size + 1 ≤ b := by rw [← z]; exact h1
        exact absurd (Nat.lt_of_lt_of_le (hfp b hb).2 (Nat.le_of_succ_le h2)) (Nat.lt_irrefl _)
    · rcases (hfp b hb).1.2.2.2.1 with z | z
      · exact I.ok.noex b o e z
      · exact absurd (Nat.lt_of_lt_of_le (Heap.lt_size e) (Nat.le_trans I.ok.bsz z)) (Nat.lt_irrefl _)
    · rcases List.mem_cons.mp (I.stkSub b z) with z | z
      · exact (hfp b hb).1.2.1 z
      · exact (hfp b hb).1.2.2.1 z
  refine ⟨okB, rfl, I.bare, Un.kept kp, ⟨fun _ => none, ?_, fun i y av e1 e2 e3 => ?_⟩, fun y c e => ?_, ?_, fun y c e => ?_, fun p hp => ?_, I.hok.kept kp, by rw [wipe_length]; exact I.len⟩
  · show Heap.Ns _ cenv.locals _
    rw [hL]
    exact Heap.Ns.keeps (Heap.Ns.new ..) fun b o e => pushCells_keeps _ _ _ _ e
  · obtain ⟨e2, hne⟩ := wipe_some e2
    have hfr : scope.names.lookup y = some .free ∧ (cenv.kindOf y = some .cell ∨ cenv.kindOf y = some .free) := by
      have key : ∀ k, cenv.scope.names.lookup y = some k → k = .local ∨ k = .cell ∨ k = .free → scope.names.lookup y = some .free ∧ (cenv.kindOf y = some .cell ∨ cenv.kindOf y = some .free) := fun k hk hk' => by
        have hk0 := hk
        rw [hsc] at hk
        obtain ⟨k', e, r⟩ := lookup_relS hk
        have no : ¬ (k' = .local ∨ k' = .cell) := fun hh => by
          rcases ok.own _ (PySem.mem_of_lookup e) hh with e' | e'
          · obtain ⟨p, hp, hpy⟩ := List.mem_map.mp e'
            have e3 := ok.ix p hp
            have : p.1 = y := hpy
            rw [this] at e3
            exact hne (List.mem_map.mpr ⟨p, hp, nodup_ix hN e3 e1⟩)
          · exact e' (List.mem_of_getElem? e1)
        rcases r with rfl | ⟨rfl, rfl⟩
        · rcases hk' with rfl | rfl | rfl
          · exact absurd (.inl rfl) no
          · exact absurd (.inr rfl) no
          · exact ⟨e, .inr hk0⟩
        · exact ⟨e, .inl hk0⟩
      have e3 : Vis cenv.scope y := e3
      rcases e3 with e3 | e3 | e3
      · exact key _ e3 (.inl rfl)
      · exact key _ e3 (.inr (.inl rfl))
      · exact key _ e3 (.inr (.inr rfl))
    obtain ⟨m, hn, hl⟩ := I.loc
    have hvis : Vis X.env.scope y := (ok.free _ (PySem.mem_of_lookup hfr.1) rfl).elim (fun k => .inr (.inl k)) (fun k => .inr (.inr k))
    obtain ⟨w, r, q⟩ := hl i y av e1 e2 hvis
    refine ⟨w, r, .inr ⟨hfr.2, ?_⟩⟩
    obtain ⟨c, h1, h2⟩ := look hfr.1
    rcases q with ⟨k, _⟩ | ⟨_, c', e', z⟩
    · have k : X.env.scope.names.lookup y = some .local := k
      rcases ok.free _ (PySem.mem_of_lookup hfr.1) rfl with k' | k' <;> rw [show X.env.scope.names.lookup y = _ from k'] at k <;> cases k
    · rw [h2] at e'; cases e'
      exact ⟨c, h1, z.keeps kp⟩
  · have e : cenv.cells.lookup y = some c := e
    rcases mem e with ⟨h1, _⟩ | ⟨_, z⟩
    · obtain ⟨w, z⟩ := I.cell y c h1
      exact ⟨w, z.keeps kp⟩
    · exact ⟨_, z⟩
  · show H cenv.locals = none
    rw [hL]; exact I.hok.fresh (Nat.le_refl _)
  · have e : cenv.cells.lookup y = some c := e
    rcases mem e with ⟨h1, _⟩ | ⟨h1, _⟩
    · exact I.freeC y c h1
    · exact I.hok.fresh (Nat.le_of_succ_le h1)
  · exact absurd (show p ∈ ([] : List (Addr × Obj)) ++ [] from hp) (by simp)
theorem app_ok {E : Value → Shared → Prop} {D : Addr} {xs : List V} {y : V} {v : Value} {Q : Value → Shared → Prop} (I : Inv X pins σ H s) (hD : H D = some (.lst xs)) (hz : xs.length < sizeLine) (r : RelV y v)
    (h : ∀ s', Inv X pins σ (upd H D (.lst (xs ++ [y]))) s' → Q .none s') : wpAny (model X.prog X.w) X.A (call (.builtin "list.append") [.ref D, v]) Q E s := by
  obtain ⟨hz', its, n, ri, e⟩ := I.hok D _ hD
  have hl := ri.length
  refine append_at (hsz := by rw [List.size_toArray]; (first | lia | omega)) e fun h' sb ho' => ?_
  refine h { s with heap := h' } (I.write (t' := s.toks) (by rw [hD]; trivial) (.inl rfl) (fun b u hb q => (sb.2 b hb).trans q) ⟨_, ho'⟩ ⟨by rw [List.length_append]; exact hz, its ++ [v], n + 1, ri.append (.cons r .nil), ?_⟩)
  rw [ho']
  simp
def PTs (X : Cx) (ifs : List Expr) (t : TT) : Prop :=
  ∀ (pins : List (Addr × Obj)) (s : Shared) (σ : St) (H : Hp) (Q : Bool → Hp → Prop), Inv X pins σ H s → t σ H Q →
    wpAny (model X.prog X.w) X.A (forIn ifs true fun c r => if r = true then do let ok ← isTrue c X.env (eval c X.env); pure (ForInStep.yield ok) else pure (ForInStep.yield r)) (TP X pins σ Q) X.xe s
@[reducible] def tYes : TT := fun _ H Q => Q true H
theorem pts_nil : PTs X [] tYes := fun _ _ _ H _ I h => wpAny_tests_nil ⟨H, I, h⟩
theorem pts_one {c : Expr} {t : TT} (h : PT X c t) : PTs X [c] t := fun pins s σ H Q I hw => wpAny_tests_one (h pins s σ H Q I hw)
end
theorem thnF {α : Type} {t : Sem α} {Q Q' : α → Shared → Prop} {M : Model} {A : Around} {E : Value → Shared → Prop} {s : Shared} (h : wpAny M A t Q (fun _ _ => False) s) (hQ : ∀ a s, Q a s → Q' a s) : wpAny M A t Q' E s := wpAny_mono h hQ fun _ _ z => False.elim z
theorem compLoop_any {prog : Program} {w : World} {A : Around} {R : Result → Shared → Prop} {s : Shared} {elt target iter : Expr} {ifs : List Expr} {scope : Scope} {pos : Pos} {it acc : Value} {env : Env} (I : Nat → Shared → Prop)
    (turn : ∀ n s, I n s → wpAny (model prog w) A (pyNext it) (fun r s₁ => match r with
      | none => R (.ok .next) s₁
      | some v => wpAny (model prog w) A (letOwnedTupleGo target it v) (fun _ s₁' => wpAny (model prog w) A (assign target env v) (fun _ s₂ =>
          wpAny (model prog w) A (forIn ifs true fun c r => if r = true then do let ok ← isTrue c env (eval c env); pure (ForInStep.yield ok) else pure (ForInStep.yield r)) (fun ok s₃ =>
            if ok = true then wpAny (model prog w) A (eval elt env) (fun x s₄ =>
              wpAny (model prog w) A (call (.builtin "list.append") [acc, x]) (fun _ s₅ => ∃ m, m < n ∧ I m s₅) (notedBy (model prog w) A env fun e s' => R (.error e) s') s₄) (notedBy (model prog w) A env fun e s' => R (.error e) s') s₃
            else ∃ m, m < n ∧ I m s₃) (notedBy (model prog w) A env fun e s' => R (.error e) s') s₂) (notedBy (model prog w) A env fun e s' => R (.error e) s') s₁') (notedBy (model prog w) A env fun e s' => R (.error e) s') s₁) (notedBy (model prog w) A env fun e s' => R (.error e) s') s)
    (n : Nat) (h : I n s) :
    codeAny (model prog w) A (.compLoop (.ListComp elt [⟨target, iter, ifs, 0⟩] scope pos) 0 it acc env) R s := by
  refine codeAny_loop rfl I (fun n s hI => ?_) n h
  show wpAny _ A ((compTurn (.ListComp elt [⟨target, iter, ifs, 0⟩] scope pos) 0 it acc env).onRaise (fun x => do noteFrame x env; theTreesLotGoes x)) _ _ s
  refine wpAny_noted ?_
  rw [compTurn_list]
  refine wpAny_bind (wpAny_standAt (wpAny_bind (wpAny_mono (turn n s hI) (fun r s₁ h₁ => ?_) fun _ _ h' => h')))
  cases r with
  | none => exact wpAny_pure h₁
  | some v =>
    refine wpAny_bind (wpAny_mono h₁ (fun _ s₁' h₁' => ?_) fun _ _ h' => h')
    refine wpAny_bind (wpAny_mono h₁' (fun _ s₂ h₂ => wpAny_bind (wpAny_mono h₂ (fun ok s₃ h₃ => ?_) fun _ _ h' => h')) fun _ _ h' => h')
    cases ok with
    | false => exact wpAny_pure ⟨rfl, h₃⟩
    | true =>
      exact wpAny_bind (wpAny_bind (wpAny_mono h₃ (fun x s₄ h₄ => wpAny_bind (wpAny_mono h₄ (fun _ s₅ h₅ => wpAny_pure (wpAny_pure ⟨rfl, h₅⟩)) fun _ _ h' => h')) fun _ _ h' => h'))
section
variable {X : Cx}
@[reducible] def tLc (wi : TI) (g : TG) (tt : TT) (te : TE) (vs : List Nat) : TE := fun σ H Q => wi σ H fun J H1 => ∀ D, H1 D = none → ∃ W : Nat → Nat → Hp → Prop, (∃ m, W 0 m (upd H1 D (.lst []))) ∧ ∀ i m H, W i m H →
  (J.stop i H ∧ Q (.ref D) H) ∨ (J.go i H ∧ ∃ Nx : Hp → Prop, (∀ H', Nx H' → ∃ m', m' < m ∧ W (i + 1) m' H') ∧ ∀ x H', J.yld i H x H' → g x (wipe σ vs) H' fun σ2 H2 => wipe σ2 vs = wipe σ vs ∧ tt σ2 H2 fun b H3 =>
    if b = true then te σ2 H3 fun y H4 => ∃ acc, H4 D = some (.lst acc) ∧ acc.length < sizeLine ∧ Nx (upd H4 D (.lst (acc ++ [y]))) else Nx H3)
theorem lc_core {pins : List (Addr × Obj)} {s : Shared} {σ : St} {H : Hp} {Q : VK} {elt tg iter : Expr} {ifs : List Expr} {scope : Scope} {own : List (Str × Nat)} {pos pos' : Pos} {wi : TI} {g : TG} {tt : TT} {te : TE} {use : Option (Value → Sem Unit)} {Qf : Value → Shared → Prop}
    (hc : X.calm = true) (hN : X.N.Nodup) (I : Inv X pins σ H s) (hi : PI X tg iter wi) (ok : BlkOk X.N X.env.scope scope own)
    (hg : ∀ (s : Shared) (H : Hp) (C : Addr) (cl : List (Str × Addr)) (fp : List Addr), PG (X.blk s H scope (compEnvC scope cl C X.env) fp) tg g) (ht : ∀ (s : Shared) (H : Hp) (C : Addr) (cl : List (Str × Addr)) (fp : List Addr), PTs (X.blk s H scope (compEnvC scope cl C X.env) fp) ifs tt)
    (he : ∀ (s : Shared) (H : Hp) (C : Addr) (cl : List (Str × Addr)) (fp : List Addr), PE (X.blk s H scope (compEnvC scope cl C X.env) fp) elt te) (hs : ∀ x, foldedSetIterable iter X.env x = pure x)
    (h : tLc wi g tt te (own.map (·.2)) σ H Q)
    (hRR : ∀ D C s' m H', Inv X pins σ H' s' → Q (.ref D) H' → s'.heap.Ns C m → FpOk X pins H' C → compPost (model X.prog X.w) X.A X.xe use Qf (.ref D) C (.ok .next) s') :
    wpAny (model X.prog X.w) X.A (comprehension (.ListComp elt [⟨tg, iter, ifs, 0⟩] scope pos) scope X.env pos' (newList []) false (eval iter X.env) use) Qf X.xe s := by
  have hfree : ∀ y ∈ scope.names, y.2 = .free → ∃ c, X.env.cells.lookup y.1 = some c := fun y hy e => by
    rcases ok.free y hy e with k | k
    · exact I.ok.has _ (.inl k)
    · exact I.ok.has _ (.inr k)
  refine wpAny_comprehension_free (use := use) rfl hs (closure_ok hfree) ok.kind (fun y hy e => by rw [ok.uniq y hy, e])
    (thn (hi pins s σ H _ I h) fun xv s1 hx => thn hx fun itv s2 h2 => ?_)
  obtain ⟨it, fp, tn, J, H2, e, I2, T, st2, f2, q⟩ := h2
  subst e
  refine wpAny_newObj_type (newEnv_comp ?_) (by show 0 ≤ sizeLine; decide)
  generalize hD : s2.heap.objs.size = D
  have hDn : H2 D = none := I2.hok.fresh (Nat.le_of_eq hD)
  obtain ⟨W, ⟨m0, w0⟩, turn⟩ := q D hDn
  generalize hs3 : ({ s2 with heap := s2.heap.push { cls := .type "list", data := .seq ([] : List Value).toArray } } : Shared) = s3
  have I3 : Inv X pins σ (upd H2 D (.lst [])) s3 := by
    rw [← hs3]
    refine I2.laid (t' := s2.toks) (fun b o e => Heap.get?_push_of_some _ e) (Nat.le_of_eq hD) ⟨Nat.zero_le _, [], 0, .nil, ?_⟩
    rw [← hD]
    exact Heap.get?_push_size _ rfl
  have h3 : s3.heap = s2.heap.push { cls := .type "list", data := .seq ([] : List Value).toArray } := by rw [← hs3]
  have sz : ∀ b ∈ fp, b < s2.heap.objs.size := fun b hb => by
    obtain ⟨o, e, _⟩ := T.obj _ _ st2 b hb
    exact Heap.lt_size e
  have f3 : ∀ b ∈ fp, FpOk X pins (upd H2 D (.lst [])) b ∧ b < s3.heap.objs.size := fun b hb => by
    have hlt := sz b hb
    refine ⟨⟨?_, (f2 b hb).2⟩, by rw [h3, Heap.size_push]; exact Nat.lt_succ_of_lt hlt⟩
    rw [upd_ne (by rw [← hD]; exact Nat.ne_of_lt hlt)]
    exact (f2 b hb).1
  have st3 : tn 0 s3.heap := T.keep _ _ _ st2 fun b _ o e => by rw [h3]; exact Heap.get?_push_of_some _ e
  have I4 := block_start I3 ok hN f3
  have pg := hg s3 (upd H2 D (.lst [])) s3.heap.objs.size (cellsFrom (s3.heap.objs.size + 1) scope.names (cloFrom X.env.cells scope.names [])) fp
  have pt := ht s3 (upd H2 D (.lst [])) s3.heap.objs.size (cellsFrom (s3.heap.objs.size + 1) scope.names (cloFrom X.env.cells scope.names [])) fp
  have pe := he s3 (upd H2 D (.lst [])) s3.heap.objs.size (cellsFrom (s3.heap.objs.size + 1) scope.names (cloFrom X.env.cells scope.names [])) fp
  show codeAny _ _ (.compStart (.ListComp elt [⟨tg, iter, ifs, 0⟩] scope pos) 0 (.ref it) (.ref D) (compEnvC scope (cellsFrom (s3.heap.objs.size + 1) scope.names (cloFrom X.env.cells scope.names [])) s3.heap.objs.size X.env)) (compPost (model X.prog X.w) X.A X.xe use Qf (.ref D) s3.heap.objs.size) { s3 with heap := pushCells (s3.heap.push { cls := .type "dict", data := .dict #[] }) scope.names }
  have nfp : ∀ b ∈ fp, (upd H2 D (.lst [])) b = none := fun b hb => (f3 b hb).1.1
  generalize hce : compEnvC scope (cellsFrom (s3.heap.objs.size + 1) scope.names (cloFrom X.env.cells scope.names [])) s3.heap.objs.size X.env = ce at I4 pg pt pe ⊢
  have cL : ce.locals = s3.heap.objs.size := by subst hce; rfl
  generalize hH3 : upd H2 D (.lst []) = H3 at I3 I4 pg pt pe w0 nfp f3
  generalize hs4 : ({ s3 with heap := pushCells (s3.heap.push { cls := .type "dict", data := .dict #[] }) scope.names } : Shared) = s4 at I4 ⊢
  have st4 : tn 0 s4.heap := T.keep _ _ _ st3 fun b _ o e => by rw [← hs4]; exact pushCells_keeps _ _ _ _ (Heap.get?_push_of_some _ e)
  have stat : ∀ {σ' : St} {H' : Hp} {s' : Shared}, Inv (X.blk s3 H3 scope ce fp) [] σ' H' s' → (∀ b ∈ fp, H' b = none) → ∀ b ∈ fp, FpOk (X.blk s3 H3 scope ce fp) [] H' b := fun {σ' H' s'} I' hn b hb =>
    ⟨hn b hb, (I'.ok.exf b hb).1, I'.ok.exfs b hb, .inl hb, fun x c e => (I'.ok.exf b hb).2 x c e, fun p hp => absurd (show p ∈ ([] : List (Addr × Obj)) ++ [] from hp) (by simp)⟩
  have loop : codeAny (model X.prog X.w) X.A (.compLoop (.ListComp elt [⟨tg, iter, ifs, 0⟩] scope pos) 0 (.ref it) (.ref D) ce) (compPost (model X.prog X.w) X.A X.xe use Qf (.ref D) s3.heap.objs.size) s4 := by
    refine compLoop_any (fun n s' => ∃ i H', Inv (X.blk s3 H3 scope ce fp) [] (wipe σ (own.map (·.2))) H' s' ∧ tn i s'.heap ∧ (∀ b ∈ fp, H' b = none) ∧ W i n H') ?_ m0 ⟨0, H3, I4, st4, nfp, w0⟩
    rintro n s5 ⟨i, H5, I5, st5, n5, w5⟩
    rcases turn i n H5 w5 with ⟨stop, qq⟩ | ⟨go, Nx, hNx, step⟩
    · have td := T.done (X.blk s3 H3 scope ce fp) rfl rfl rfl hc i [] s5 _ H5 (fun _ _ => False) I5 (stat I5 n5) st5 stop
      refine thnF td fun r s6 ⟨hr, I6⟩ => ?_
      subst hr
      have I7 : Inv X pins σ H5 s6 := I3.call' (ch := fp) I6.os I6.base I6.hok I6.bare fun b hb => ⟨(f3 b hb).1.2.2.2.1, (f3 b hb).1.2.1, (f3 b hb).1.2.2.2.2.1, (f3 b hb).1.2.2.2.2.2⟩
      have nC : H5 s3.heap.objs.size = none := by
        have z : H5 ce.locals = none := I6.free
        rw [cL] at z
        exact z
      obtain ⟨m, hn, _⟩ := I6.loc
      have hn : s6.heap.Ns ce.locals m := hn
      rw [cL] at hn
      exact hRR D s3.heap.objs.size s6 m H5 I7 qq hn (I3.fpOk (Nat.le_refl _) nC)
    · have ti := T.item (X.blk s3 H3 scope ce fp) rfl rfl rfl hc i [] s5 _ H5 (fun _ _ => False) I5 (stat I5 n5) st5 go
      refine thnF ti fun r s6 ⟨u, hr, h6⟩ => ?_
      subst hr
      refine thnF h6 fun _ s7 ⟨x, H7, I7, r7, y7, st7, n7⟩ => ?_
      have I7' := I7.pinned (stat I7 n7) (T.obj _ _ st7)
      refine thnF (pg _ s7 _ H7 x u _ I7' r7 (step x H7 y7)) fun _ s8 ⟨σ8, H8, I8, hw8, q8⟩ => ?_
      refine thnF (pt _ s8 σ8 H8 _ I8 q8) fun b s9 ⟨H9, I9, q9⟩ => ?_
      have fin : ∀ {s' : Shared} {H' : Hp}, Inv (X.blk s3 H3 scope ce fp) ([] ++ pinsAt fp s7.heap) σ8 H' s' → Nx H' → ∃ m, m < n ∧ ∃ i H', Inv (X.blk s3 H3 scope ce fp) [] (wipe σ (own.map (·.2))) H' s' ∧ tn i s'.heap ∧ (∀ b ∈ fp, H' b = none) ∧ W i m H' := fun {s' H'} I' nx => by
        obtain ⟨m', hm, w'⟩ := hNx H' nx
        have pin' : ∀ b ∈ fp, ∀ o, s7.heap.get? b = some o → s'.heap.get? b = some o ∧ H' b = none := fun b hb o e =>
          let z := I'.pin (b, o) (List.mem_append_right _ (List.mem_append_right _ (mem_pinsAt hb e)))
          ⟨z.1, z.2.1⟩
        have hl : (wipe σ (own.map (·.2))).length = σ8.length := by rw [← hw8, wipe_length]
        refine ⟨m', hm, i + 1, H', (I'.unpinned (pins := [])).weak hl (fun j v e => ?_), T.keep _ _ _ st7 fun b hb o e => (pin' b hb o e).1, fun b hb => ?_, w'⟩
        · rw [← hw8] at e
          exact (wipe_some e).1
        · obtain ⟨o, e, _⟩ := T.obj _ _ st7 b hb
          exact (pin' b hb o e).2
      cases b with
      | false =>
        simp only [Bool.false_eq_true, if_false] at q9 ⊢
        exact fin I9 q9
      | true =>
        simp only [if_true] at q9 ⊢
        refine thnF (pe _ s9 σ8 H9 _ I9 q9) fun z s10 ⟨yv, H10, I10, r10, acc, hD10, hz10, nx⟩ => ?_
        exact app_ok (X := X.blk s3 H3 scope ce fp) I10 hD10 hz10 r10 fun s11 I11 => fin I11 nx
  exact codeAny_compStart_list loop (T.self X.A 0 _ _ _ st4 loop)
theorem pe_lc {elt tg iter : Expr} {ifs : List Expr} {scope : Scope} {own : List (Str × Nat)} {pos : Pos} {wi : TI} {g : TG} {tt : TT} {te : TE} (hc : X.calm = true) (hN : X.N.Nodup) (hi : PI X tg iter wi) (ok : BlkOk X.N X.env.scope scope own)
    (hg : ∀ (s : Shared) (H : Hp) (C : Addr) (cl : List (Str × Addr)) (fp : List Addr), PG (X.blk s H scope (compEnvC scope cl C X.env) fp) tg g) (ht : ∀ (s : Shared) (H : Hp) (C : Addr) (cl : List (Str × Addr)) (fp : List Addr), PTs (X.blk s H scope (compEnvC scope cl C X.env) fp) ifs tt)
    (he : ∀ (s : Shared) (H : Hp) (C : Addr) (cl : List (Str × Addr)) (fp : List Addr), PE (X.blk s H scope (compEnvC scope cl C X.env) fp) elt te) (hs : ∀ x, foldedSetIterable iter X.env x = pure x := by intro _; rfl) :
    PE X (.ListComp elt [⟨tg, iter, ifs, 0⟩] scope pos) (tLc wi g tt te (own.map (·.2))) := by
  intro pins s σ H Q I h
  rw [eval_ListComp]
  refine lc_core hc hN I hi ok hg ht he hs h fun D C s' m H' I' q hn f => ⟨m, hn, fun h'' sb => ?_⟩
  obtain ⟨f0, f1, f2, f3, f4, f5⟩ := f
  exact ⟨.ref D, H', I'.turned (t' := s'.toks) (fun b o hb e => (sb.2 b hb).trans e) f0 f1 f3 f4 f5, rfl, q⟩
theorem ps_setLc {i : Nat} {y : Str} {py : Pos} {elt tg iter : Expr} {ifs : List Expr} {scope : Scope} {own : List (Str × Nat)} {pos spos : Pos} {wi : TI} {g : TG} {tt : TT} {te : TE} (hc : X.calm = true) (hN : X.N.Nodup) (hy : X.N[i]? = some y) (hyl : X.env.scope.names.lookup y = some .local)
    (hsw : swapsWith (.ListComp elt [⟨tg, iter, ifs, 0⟩] scope pos) (some (.Name y py)) spos.line X.env = pure true) (hi : PI X tg iter wi) (ok : BlkOk X.N X.env.scope scope own)
    (hg : ∀ (s : Shared) (H : Hp) (C : Addr) (cl : List (Str × Addr)) (fp : List Addr), PG (X.blk s H scope (compEnvC scope cl C X.env) fp) tg g) (ht : ∀ (s : Shared) (H : Hp) (C : Addr) (cl : List (Str × Addr)) (fp : List Addr), PTs (X.blk s H scope (compEnvC scope cl C X.env) fp) ifs tt)
    (he : ∀ (s : Shared) (H : Hp) (C : Addr) (cl : List (Str × Addr)) (fp : List Addr), PE (X.blk s H scope (compEnvC scope cl C X.env) fp) elt te) (hs : ∀ x, foldedSetIterable iter X.env x = pure x := by intro _; rfl) :
    PS X (.Assign [.Name y py] (.ListComp elt [⟨tg, iter, ifs, 0⟩] scope pos) spos) (tAsg (tLc wi g tt te (own.map (·.2))) (gName i)) := by
  intro pins s σ H D I h
  rw [exec_Assign_Name_used _ _ _ _ hsw]
  refine wpAny_bind (wpAny_standAt (wpAny_bind ?_))
  show wpAny _ X.A (do let _ ← comprehension (.ListComp elt [⟨tg, iter, ifs, 0⟩] scope pos) scope X.env (firstIterPos [⟨tg, iter, ifs, 0⟩] pos) (newList []) false (eval iter X.env) (some (assign (.Name y py) X.env))) _ _ s
  have h : tLc wi g tt te (own.map (·.2)) σ H (fun x H1 => gName i x σ H1 D.nx) := h
  refine wpAny_bind (thn (lc_core (Qf := fun _ s' => SP X pins D .next s') hc hN I hi ok hg ht he hs h fun L C s' m H' I' q hn f => ?_) fun _ s' hq => wpAny_pure (wpAny_pure hq))
  show wpAny _ _ (assign (.Name y py) X.env (.ref L)) _ _ _
  refine wpAny_assign_Name (store_ok2 (v := V.ref L) I' hN hy (.inl hyl) rfl (fun s2 I2 ⟨a, sb, ha⟩ => ?_) (.inr hyl))
  obtain ⟨f0, f1, f2, f3, f4, f5⟩ := f
  have haC : C ≠ a := by
    rcases ha with z | z
    · rw [z]; exact f1
    · exact fun e => f4 y a z e.symm
  refine ⟨m, hn.sameBut sb haC, fun h3 sb3 => ?_⟩
  exact ⟨_, H', I2.turned (t' := s2.toks) (fun b o hb e => (sb3.2 b hb).trans e) f0 f1 f3 f4 f5, q⟩
theorem sw_true {elt : Expr} {gs : List Comprehension} {scope : Scope} {pos py : Pos} {y : Str} {l : Nat} {env : Env} (hk : env.scope.kind = .function) (hy : env.scope.names.lookup y = some .local) (hl : (py.line == pos.line) = true)
    (ha : (scope.names.any fun (n, k) => n == y && (k == .local || k == .cell)) = false) : swapsWith (.ListComp elt gs scope pos) (some (.Name y py)) l env = pure true := by
  have ky : env.kindOf y = some .local := hy
  have hb : env.blockKind = .function := by unfold Env.blockKind; rw [hk]; rfl
  unfold swapsWith
  simp only [hb, ky, ha, Expr.pos, hl]
  rfl
end
theorem lc_range {lo : Int} {n : Nat} {g : TG} {tt : TT} {te : TE} {vs : List Nat} {σ : St} {H1 : Hp} {D : Addr} {Qd : Hp → Prop} (Pv : Nat → Hp → Prop) (h0 : Pv 0 (upd H1 D (.lst [])))
    (hs : ∀ i H, i < n → Pv i H → g (.int (lo + i)) (wipe σ vs) H fun σ2 H2 => wipe σ2 vs = wipe σ vs ∧ tt σ2 H2 fun b H3 =>
      if b = true then te σ2 H3 fun y H4 => ∃ acc, H4 D = some (.lst acc) ∧ acc.length < sizeLine ∧ Pv (i + 1) (upd H4 D (.lst (acc ++ [y]))) else Pv (i + 1) H3) (hd : ∀ H, Pv n H → Qd H) :
    ∃ W : Nat → Nat → Hp → Prop, (∃ m, W 0 m (upd H1 D (.lst []))) ∧ ∀ i m H, W i m H →
      ((Itr lo n).stop i H ∧ Qd H) ∨ ((Itr lo n).go i H ∧ ∃ Nx : Hp → Prop, (∀ H', Nx H' → ∃ m', m' < m ∧ W (i + 1) m' H') ∧ ∀ x H', (Itr lo n).yld i H x H' → g x (wipe σ vs) H' fun σ2 H2 => wipe σ2 vs = wipe σ vs ∧ tt σ2 H2 fun b H3 =>
        if b = true then te σ2 H3 fun y H4 => ∃ acc, H4 D = some (.lst acc) ∧ acc.length < sizeLine ∧ Nx (upd H4 D (.lst (acc ++ [y]))) else Nx H3) := by
  refine ⟨fun i m H => m = n - i ∧ i ≤ n ∧ Pv i H, ⟨n, by simp, Nat.zero_le _, h0⟩, ?_⟩
  rintro i m H ⟨rfl, hi, p⟩
  by_cases hlt : i < n
  · refine .inr ⟨hlt, Pv (i + 1), fun H' p' => ⟨n - (i + 1), by (first | lia | omega), rfl, hlt, p'⟩, fun x H' y => ?_⟩
    obtain ⟨e, y⟩ := y
    subst e y
    exact hs i _ hlt p
  · have e : i = n := by (first | lia | omega)
    subst e
    exact .inl ⟨Nat.le_refl _, hd H p⟩
theorem lc_list {K : PySem.W.Frag} {a : Addr} {xs : List V} {g : TG} {tt : TT} {te : TE} {vs : List Nat} {σ : St} {H1 : Hp} {D : Addr} {Qd : Hp → Prop} (Pv : Nat → Hp → Prop) (h0 : Pv 0 (upd H1 D (.lst []))) (hl : ∀ i H, i ≤ xs.length → Pv i H → SqL K H a xs)
    (hs : ∀ i x H, xs[i]? = some x → Pv i H → g x (wipe σ vs) H fun σ2 H2 => wipe σ2 vs = wipe σ vs ∧ tt σ2 H2 fun b H3 =>
      if b = true then te σ2 H3 fun y H4 => ∃ acc, H4 D = some (.lst acc) ∧ acc.length < sizeLine ∧ Pv (i + 1) (upd H4 D (.lst (acc ++ [y]))) else Pv (i + 1) H3) (hd : ∀ H, Pv xs.length H → Qd H) :
    ∃ W : Nat → Nat → Hp → Prop, (∃ m, W 0 m (upd H1 D (.lst []))) ∧ ∀ i m H, W i m H →
      ((Itl K a).stop i H ∧ Qd H) ∨ ((Itl K a).go i H ∧ ∃ Nx : Hp → Prop, (∀ H', Nx H' → ∃ m', m' < m ∧ W (i + 1) m' H') ∧ ∀ x H', (Itl K a).yld i H x H' → g x (wipe σ vs) H' fun σ2 H2 => wipe σ2 vs = wipe σ vs ∧ tt σ2 H2 fun b H3 =>
        if b = true then te σ2 H3 fun y H4 => ∃ acc, H4 D = some (.lst acc) ∧ acc.length < sizeLine ∧ Nx (upd H4 D (.lst (acc ++ [y]))) else Nx H3) := by
  refine ⟨fun i m H => m = xs.length - i ∧ i ≤ xs.length ∧ Pv i H, ⟨xs.length, by simp, Nat.zero_le _, h0⟩, ?_⟩
  rintro i m H ⟨rfl, hi, p⟩
  have q := hl i H hi p
  by_cases hlt : i < xs.length
  · refine .inr ⟨⟨xs, xs[i], q, by simp [hlt]⟩, Pv (i + 1), fun H' p' => ⟨xs.length - (i + 1), by (first | lia | omega), rfl, hlt, p'⟩, fun x H' y => ?_⟩
    obtain ⟨e, y⟩ := y
    subst e
    exact hs i x _ (y xs q) p
  · have e : i = xs.length := by (first | lia | omega)
    subst e
    exact .inl ⟨⟨xs, q, Nat.le_refl _⟩, hd H p⟩
def blkC (N : List Str) (sc scope : Scope) (own : List (Str × Nat)) : Bool :=
  (match scope.kind with | .function => true | _ => false) && (scope.names.all fun y => decide (scope.names.lookup y.1 = some y.2)) && (own.all fun p => decide (N[p.2]? = some p.1)) &&
    (scope.names.all fun y => match y.2 with
      | .free => (match sc.names.lookup y.1 with | some .cell => true | some .free => true | _ => false)
      | .local => decide (y.1 ∈ own.map (·.1)) || decide (y.1 ∉ N)
      | .cell => decide (y.1 ∈ own.map (·.1)) || decide (y.1 ∉ N)
      | _ => true)
theorem blkOk_by {N : List Str} {sc scope : Scope} {own : List (Str × Nat)} (h : blkC N sc scope own = true) : BlkOk N sc scope own := by
  unfold blkC at h
  simp only [Bool.and_eq_true, List.all_eq_true, decide_eq_true_eq] at h
  obtain ⟨⟨⟨h1, h2⟩, h3⟩, h4⟩ := h
  refine ⟨?_, h2, h3, fun y hy e => ?_, fun y hy e => ?_⟩
  · split at h1
    · assumption
    · cases h1
  · have q := h4 y hy
    simp only [e] at q
    split at q <;> first | exact .inl (by assumption) | exact .inr (by assumption) | cases q
  · have q := h4 y hy
    rcases e with e | e <;> (simp only [e, Bool.or_eq_true, decide_eq_true_eq] at q; exact q)
end L2
namespace L2
open PySem PySem.Spec PyProof.Rows
section
variable {prog : Program} {w : World} {A : Around} {R : Result → Shared → Prop} {s : Shared} {elt t0 i0 t1 i1 : Expr} {ifs0 ifs1 : List Expr} {scope : Scope} {pos : Pos} {it acc : Value} {env : Env}
end
section
variable {X : Cx}
end
end L2
namespace L2
open PySem PySem.Spec PyProof.Rows
section
variable {κ : Type} [DecidableEq κ]
end
section
variable {P : Program} {w : World} {H : Hp} {h : Heap} {a : Addr}
end
section
variable {X : Cx} {pins : List (Addr × Obj)} {σ : St} {H : Hp} {s : Shared} {a : Addr} {y v : V} {u r : Value} {o : Option V} {A : Around} {E : Value → Shared → Prop}
end
section
variable {X : Cx} {pins : List (Addr × Obj)} {σ : St} {H : Hp} {s : Shared} {a : Addr} {kvs : List (Key × V)} {k : Key} {u : Value} {A : Around} {E : Value → Shared → Prop}
end
section
variable {X : Cx} {o i e value : Expr} {pos pos' tpos : Pos} {td ty tv : TE}
end
section
variable {X : Cx} {pos : Pos}
end
section
variable {X : Cx} {pins : List (Addr × Obj)} {σ : St} {H : Hp} {s : Shared} {a : Addr} {y d : V} {u r : Value} {o : Option V} {A : Around} {E : Value → Shared → Prop}
end
section
variable {X : Cx} {o e f : Expr} {apos cpos : Pos} {td ty tx : TE}
end
section
variable {X : Cx} {pins : List (Addr × Obj)} {σ : St} {H : Hp} {s : Shared} {a : Addr} {kvs : List (Key × V)} {A : Around} {E : Value → Shared → Prop}
end
section
variable {X : Cx} {pins : List (Addr × Obj)} {σ : St} {H : Hp} {s : Shared} {a : Addr} {y : V} {u : Value} {A : Around} {E : Value → Shared → Prop}
end
end L2
namespace L2
open PySem PySem.Spec PyProof.Rows
section
variable {prog : Program} {w : World} {A : Around} {E : Value → Shared → Prop}
end
section
variable {X : Cx}
end
end L2
namespace L2
open PySem PySem.Spec PyProof.Rows
section
variable {X : Cx} {pins : List (Addr × Obj)} {σ : St} {H : Hp} {s : Shared} {h' : Heap}
end
section
variable {X : Cx}
end
section
variable {X : Cx} {tg : Expr}
end
section
variable {X : Cx} {tg : Expr}
end
section
variable {prog : Program} {w : World} {A : Around} {E : Value → Shared → Prop} {s : Shared}
end
theorem paired_get {α β : Type} {G : α → β → Prop} {l₁ : List α} {l₂ : List β} (h : Paired G l₁ l₂) : ∀ {i : Nat} {a : α}, l₁[i]? = some a → ∃ b, l₂[i]? = some b ∧ G a b := by
  induction h with
  | nil => intro i a e; simp at e
  | @cons a b l₁ l₂ r t ih =>
    intro i a' e
    cases i with
    | zero =>
      simp only [List.getElem?_cons_zero, Option.some.injEq] at e
      subst e
      exact ⟨b, rfl, r⟩
    | succ j =>
      simp only [List.getElem?_cons_succ] at e ⊢
      exact ih e
section
variable {X : Cx} {pins : List (Addr × Obj)} {σ : St} {H : Hp} {s : Shared} {d : Addr} {o : Obj}
end
section
variable {P : Program} {w : World} {K : PySem.W.Frag} {tg : Expr} {d : Addr} {o : Obj} {es : Array DictEntry} {ep : Nat}
end
section
variable {X : Cx} {tg e : Expr} {td : TE} {apos cpos : Pos}
end
end L2
section 
namespace Bits
open PySem PyProof.Rows
end Bits
end 
section 
namespace TL
open PySem PySem.Builtin PySem.Builtin.Str PySem.StrLaws
end TL
end 
namespace L2
open PySem PySem.Spec PyProof.Rows
section
variable {X : Cx} {pins : List (Addr × Obj)} {σ : St} {H : Hp} {s : Shared} {Q : VK}
end
section
variable {X : Cx}
end
section
variable {X : Cx} {o e : Expr} {to te : TE}
end
end L2
namespace L2
open PySem PySem.Spec PyProof.Rows
section
variable {X : Cx}
end
end L2
namespace Att
open PySem PySem.W PySem.Calls PyProof.Rows
section
variable {prog : Program} {w : World} {A : Around} {E : Value → Shared → Prop} {s : Shared} {K : Frag}
end
end Att
namespace L2
open PySem PySem.Spec PyProof.Rows
end L2
namespace L2
open PySem PySem.Spec PyProof.Rows
end L2
/- THE LAST THEOREM (shape; LID, My.* are yours):
   My.Adr: a structure of the addresses that your layer names (classes, functions); My.Txt K t: a structure (Prop) of the equations over K;
   My.txt_mk : {K} {implicit addresses ..} (e1 : nsIn K mainGlobals "law" = some (some (.ref f))) (e2 : K.lookup f = some ⟨oc, od, .func (fnOf "law" "law" params body scope dV kV doc pm an cdv ct), sl⟩) (e3 : codeIn K cdv "law" = true) .. : ∃ t, My.Txt K t
set_option maxRecDepth 100000 in
set_option maxHeartbeats 0 in
theorem PySem.Challenge.cw_LID_holds : PySem.Challenge.rw_LID.Holds := by
  w_on; o_law; k_head; (case hw => w_witness2)
  k_fill
  refine L2.walk_of (l := PySem.Challenge.rw_LID) (n := 63) (k := 40) (x := "script") (CX := fun w => ..) (sp := fun _ => My.sp_law) rfl (by decide) rfl ⟨rfl, by decide, by decide⟩ (fun w h Y => PySem.W.kIn_of Y) ?F ?S ?C
  case F =>
    intro w mg fa h KX G hmg
    have T : ∃ t, My.Txt (L2.KOf KX) t := by
      dsimp only [L2.KOf]                          -- K must stand as «<heap const> w.params» for k_is
      refine' My.txt_mk ?e1 ?e2 ?e3 ..
      (case e1 => PySem.W.k_is)                    -- in the order: a name -> its address -> its object -> its parts
      (case e2 => PySem.W.k_is)
      ..
    obtain ⟨t, T⟩ := T
    have e0 := hmg.symm.trans (PySem.W.mg_of KX G T.law)
    cases e0                                       -- fa is the law's own address
    exact ⟨_, fun s u => .of_eq rfl, fun base kb nb => My.law_fn T kb nb⟩     -- if «.of_eq rfl» comes too early: refine' ⟨_, ?b, fun base kb nb => My.law_fn T kb nb⟩; exact fun s u => .of_eq rfl
  case S => exact fun w H a ns hl hO hS => ..
  case C => exact ..
(the tactic k_is has no namespace: write k_is) -/
namespace L2
open PySem PySem.Spec PyProof.Rows
def inClass (s : Stmt) (j : Nat) : Stmt := match s with
  | .ClassDef _ _ _ body _ _ _ _ _ _ _ => body.getD j (.Pass ⟨0, 0, 0, 0⟩)
  | _ => .Pass ⟨0, 0, 0, 0⟩
def defArgs (s : Stmt) : Arguments := match s with
  | .FunctionDef _ a _ _ _ _ _ _ _ _ => a
  | _ => { posonlyargs := [], args := [], vararg := none, kwonlyargs := [], kw_defaults := [], kwarg := none, defaults := [] }
def defBody (s : Stmt) : List Stmt := match s with
  | .FunctionDef _ _ b _ _ _ _ _ _ _ => b
  | _ => []
def defScope (s : Stmt) : Scope := match s with
  | .FunctionDef _ _ _ _ _ _ sc _ _ _ => sc
  | _ => { kind := .function, names := [], isGenerator := false, isCoroutine := false }
abbrev CX0 : CXT := fun _ _ _ _ _ _ => False
abbrev E0 : XK := fun _ _ _ => False
theorem pass0 {X : Cx} : Passes CX0 X E0 := fun _ _ _ _ _ _ _ h => h.elim
structure Fun (K : PySem.W.Frag) (x qual : Str) (st : Stmt) (f : Addr) (fd : FuncData) : Prop where
  ex : ∃ (oc : Value) (od : Option Addr) (kV doc pm : Value) (an : Option Addr) (cdv ct : Value) (osl : Array (Option Value)),
    fd = PySem.W.fnOf x qual (defArgs st) (defBody st) (defScope st) .none kV doc pm an cdv ct ∧ K.lookup f = some ⟨oc, od, .func fd, osl⟩ ∧ PySem.W.codeIn K cdv qual = true
  kp : PySem.W.keepIn K (.ref f) = true
section
variable {P : Program} {w : World} {K : PySem.W.Frag} {mg : Str → Option Value} {base : Heap}
theorem Fun.ok {x qual : Str} {st : Stmt} {f : Addr} {fd : FuncData} {N ps : List Str} {k : Nat} {sp : Sp} (F : Fun K x qual st f fd) (S : FnScope N ps (defScope st)) (len : ∀ vs H Q E, sp vs H Q E → vs.length = ps.length)
    (hbody : ∀ (cdv : Value) (A : Around) (outer : List Env) (s : Shared) (H : Hp) (vs : List V) (Q : VK) (E : XK), Room k (A.deeper (envOfC qual (defScope st) s.heap.objs.size f cdv)) → sp vs H Q E →
      ∃ t, PSs (cxOf CX0 P w K mg base N qual (defScope st) f cdv A outer s H E).nox (defBody st) t ∧ t { nx := fun _ H' => Q .non H', rt := Q } (start N vs) H) : FnOk P w K mg base CX0 (k + 1) f fd ps sp := by
  obtain ⟨oc, od, kV, doc, pm, an, cdv, ct, osl, rfl, lk, hcd⟩ := F.ex
  refine fn_of lk hcd S len fun A outer s H vs Q E hr hsp => ?_
  obtain ⟨t, h, q⟩ := hbody cdv A outer s H vs Q E hr hsp
  exact ⟨t, h.nox, q⟩
theorem Fun.binds {x qual : Str} {st : Stmt} {f : Addr} {fd : FuncData} {ps : List Str} (F : Fun K x qual st f fd)
    (h : ∀ (kV doc pm : Value) (an : Option Addr) (cdv ct : Value) (us : List Value), us.length = ps.length → bindArgs (PySem.W.fnOf x qual (defArgs st) (defBody st) (defScope st) .none kV doc pm an cdv ct) ⟨us, []⟩ = pure (ps.zip us)) : Binds K fd ps [] := by
  obtain ⟨oc, od, kV, doc, pm, an, cdv, ct, osl, rfl, lk, hcd⟩ := F.ex
  exact .all (h kV doc pm an cdv ct)
theorem fun_mk {x qual : Str} {st : Stmt} {f : Addr} {oc : Value} {od an : Option Addr} {osl : Array (Option Value)} {kV doc pm cdv ct : Value} (l : K.lookup f = some ⟨oc, od, .func (PySem.W.fnOf x qual (defArgs st) (defBody st) (defScope st) .none kV doc pm an cdv ct), osl⟩)
    (c : PySem.W.codeIn K cdv qual = true) (k : PySem.W.keepIn K (.ref f) = true) : Fun K x qual st f (PySem.W.fnOf x qual (defArgs st) (defBody st) (defScope st) .none kV doc pm an cdv ct) := ⟨⟨oc, od, kV, doc, pm, an, cdv, ct, osl, rfl, l, c⟩, k⟩
end
section
variable {X : Cx}
theorem pv (i : Nat) {x : Str} {pos : Pos} (hN : X.N[i]? = some x := by rfl) (hv : Vis X.env.scope x := by first | exact Or.inl rfl | exact Or.inr (Or.inl rfl) | exact Or.inr (Or.inr rfl)) (hd : (x == ("__debug__" : Str)) = false := by decide)
    (hcd : (x == ("__classdict__" : Str)) = false := by decide) : PE X (.Name x pos) (tVar i) := pe_var hN hv hd hcd
end
theorem iteF {A B : Prop} (h : B) : if false = true then A else B := by
  rw [if_neg Bool.false_ne_true]
  exact h
theorem iteT {A B : Prop} (h : A) : if true = true then A else B := by
  rw [if_pos rfl]
  exact h
theorem iteNS {c A B : Prop} [Decidable c] (hc : c) (h : B) : if (!decide c) = true then A else B := by
  rw [decide_eq_true hc]
  exact iteF h
def Same (H H' : Hp) : Prop := ∀ b o, H b = some o → H' b = some o
theorem Same.refl (H : Hp) : Same H H := fun _ _ h => h
theorem Same.trans {H H1 H2 : Hp} (a : Same H H1) (b : Same H1 H2) : Same H H2 := fun c o h => b c o (a c o h)
theorem Same.free {H H' : Hp} (e : Same H H') {l : Addr} (h : H' l = Option.none) : H l = Option.none := by
  cases q : H l with
  | none => rfl
  | some o =>
    rw [e l o q] at h
    cases h
theorem Same.seq {K : PySem.W.Frag} {H H' : Hp} {a : Addr} {xs : List V} (e : Same H H') (h : SqL K H a xs) : SqL K H' a xs := by
  rcases h with (h | ⟨o, h⟩) | h
  · exact .inl (.inl (e _ _ h))
  · exact .inl (.inr ⟨o, e _ _ h⟩)
  · exact .inr h
section
variable {κ : Type} [DecidableEq κ]
end
theorem at_of {xs : List V} {z : Int} {j : Nat} {v : V} (e : z = (j : Int)) (h : xs[j]? = some v) : atI xs z = some v := by
  rw [e]
  exact atI_nat h
end L2
section
set_option Elab.async false
set_option linter.all false
set_option maxRecDepth 100000
set_option maxHeartbeats 2000000
namespace L2
open PySem PySem.Spec PyProof.Rows
open PySem.W (WData Codec OpenSpec Well WellAll ReadsW ReadsAllW)
mutual
inductive Dw (K : PySem.W.Frag) (H : Hp) : V → WData → Prop
  | non : Dw K H .non .none
  | bl (b : Bool) : Dw K H (.bl b) (.bool b)
  | int (i : Int) : Dw K H (.int i) (.int i)
  | str (x : Str) : Dw K H (.str x) (.str x)
  | byt (b : Array UInt8) : Dw K H (.byt b) (.bytes b.toList)
  | lst {a : Addr} {xs : List V} {ds : List WData} : SqL K H a xs → DwAll K H xs ds → Dw K H (.ref a) (.list ds)
  | tup {a : Addr} {xs : List V} {ds : List WData} : SqT K H a xs → DwAll K H xs ds → Dw K H (.ref a) (.tuple ds)
inductive DwAll (K : PySem.W.Frag) (H : Hp) : List V → List WData → Prop
  | nil : DwAll K H [] []
  | cons {v : V} {vs : List V} {d : WData} {ds : List WData} : Dw K H v d → DwAll K H vs ds → DwAll K H (v :: vs) (d :: ds)
end
theorem dw_ints {K : PySem.W.Frag} {H : Hp} : ∀ ns : List Int, DwAll K H (ns.map V.int) (ns.map WData.int)
  | [] => .nil
  | n :: r => .cons (.int n) (dw_ints r)
theorem ints_dw {K : PySem.W.Frag} {H : Hp} : ∀ (ns : List Int) (xs : List V), DwAll K H xs (ns.map WData.int) → xs = ns.map V.int
  | [], xs, h => by
    cases h
    rfl
  | n :: r, xs, h => by
    cases h with
    | cons h1 h2 =>
      cases h1
      rw [ints_dw r _ h2] <;> rfl
section
variable {P : Program} {w : World} {K : PySem.W.Frag} {H : Hp} {h : Heap} {R : PySem.W.WRecords} {cl : Str → Option Addr}
theorem sqL_at {a : Addr} {xs : List V} (hok : HOk P w H h) (KX : K.In h) (q : SqL K H a xs) : ∃ (its : List Value) (o : Obj) (n : Nat), Vals xs its ∧ h.get? a = some o ∧ o.cls = .type "list" ∧ o.data = .seq its.toArray n := by
  rcases q with q | ⟨o, its, n, e, hc, _, hd, _, hv⟩
  · obtain ⟨_, its, n, hv, e⟩ := (show ObjOk P w H h a (.lst xs) from q.ok hok)
    exact ⟨its, _, n, hv, e, rfl, rfl⟩
  · exact ⟨its.toList, o, n, hv, KX _ _ e, hc, by simp [hd]⟩
theorem sqT_at {a : Addr} {xs : List V} (hok : HOk P w H h) (KX : K.In h) (q : SqT K H a xs) : ∃ (its : List Value) (o : Obj) (n : Nat), Vals xs its ∧ h.get? a = some o ∧ o.cls = .type "tuple" ∧ o.data = .seq its.toArray n := by
  rcases q with q | ⟨o, its, n, e, hc, hd, _, hv⟩
  · obtain ⟨_, its, hv, o, e, hc, n, hd⟩ := (show ObjOk P w H h a (.tup xs) from q.ok hok)
    exact ⟨its, o, n, hv, e, hc, hd⟩
  · exact ⟨its.toList, o, n, hv, KX _ _ e, hc, by simp [hd]⟩
mutual
theorem Dw.reads (hok : HOk P w H h) (KX : K.In h) : ∀ (d : WData) (v : V) (u : Value), Dw K H v d → RelV v u → ∃ as, ReadsW R cl h u d as
  | .none, _, _, x, r => by
    cases x
    cases r
    exact ⟨_, ReadsW.none⟩
  | .bool b, _, _, x, r => by
    cases x
    cases r
    exact ⟨_, ReadsW.bool b⟩
  | .int i, _, _, x, r => by
    cases x
    obtain ⟨t, rfl⟩ := r
    exact ⟨_, ReadsW.int i t⟩
  | .str s, _, _, x, r => by
    cases x
    obtain ⟨t, rfl⟩ := r
    exact ⟨_, ReadsW.str s t⟩
  | .bytes b, _, _, x, r => by
    cases x
    obtain ⟨t, rfl⟩ := r
    exact ⟨_, ReadsW.bytes _ t⟩
  | .list ds, _, _, x, r => by
    cases x with
    | lst hs ha =>
      cases r
      obtain ⟨its, o, n, rv, ho, hc, hd⟩ := sqL_at hok KX hs
      obtain ⟨as, hr⟩ := Dw.readsAll hok KX ds _ its ha rv
      exact ⟨_, ReadsW.list ho hc hd hr⟩
  | .tuple ds, _, _, x, r => by
    cases x with
    | tup hs ha =>
      cases r
      obtain ⟨its, o, n, rv, ho, hc, hd⟩ := sqT_at hok KX hs
      obtain ⟨as, hr⟩ := Dw.readsAll hok KX ds _ its ha rv
      exact ⟨_, ReadsW.tuple ho hc hd hr⟩
  | .float _, _, _, x, _ => by cases x
  | .dict _, _, _, x, _ => by cases x
  | .bytearray _, _, _, x, _ => by cases x
  | .set _, _, _, x, _ => by cases x
  | .frozenset _, _, _, x, _ => by cases x
  | .obj _ _, _, _, x, _ => by cases x
theorem Dw.readsAll (hok : HOk P w H h) (KX : K.In h) : ∀ (ds : List WData) (vs : List V) (us : List Value), DwAll K H vs ds → Vals vs us → ∃ as, ReadsAllW R cl h us ds as
  | [], _, _, x, r => by
    cases x
    cases r
    exact ⟨_, ReadsAllW.nil⟩
  | d :: ds, _, _, x, r => by
    cases x with
    | cons h1 h2 =>
      cases r with
      | cons r1 r2 =>
        obtain ⟨as, q1⟩ := Dw.reads hok KX d _ _ h1 r1
        obtain ⟨bs, q2⟩ := Dw.readsAll hok KX ds _ _ h2 r2
        exact ⟨_, ReadsAllW.cons q1 q2⟩
end
end
mutual
def plW : WData → Bool
  | .none => true
  | .bool _ => true
  | .int _ => true
  | .str _ => true
  | .bytes _ => true
  | .list xs => plWs xs
  | .tuple xs => plWs xs
  | _ => false
def plWs : List WData → Bool
  | [] => true
  | x :: r => plW x && plWs r
end
theorem plWs_map {α : Type} {f : α → WData} (h : ∀ a, plW (f a) = true) : ∀ l : List α, plWs (l.map f) = true
  | [] => rfl
  | x :: r => by
    show (plW (f x) && plWs (r.map f)) = true
    rw [h x, plWs_map h r] <;> rfl
theorem pl_enc : ∀ (c : Codec) (a : c.denote), plW (c.enc a) = true
  | .unit, _ => rfl
  | .bool, _ => rfl
  | .int _ _, _ => rfl
  | .nat _ _, _ => rfl
  | .u8, _ => rfl
  | .bytes _ _, _ => rfl
  | .text _ _ _ _, _ => rfl
  | .list _ _ c, a => plWs_map (fun x => pl_enc c x) a
  | .pair c d, a => by
    show (plW (c.enc a.1) && (plW (d.enc a.2) && true)) = true
    rw [pl_enc c a.1, pl_enc d a.2] <;> rfl
  | .triple c d e, a => by
    show (plW (c.enc a.1) && (plW (d.enc a.2.1) && (plW (e.enc a.2.2) && true))) = true
    rw [pl_enc c a.1, pl_enc d a.2.1, pl_enc e a.2.2] <;> rfl
  | .option c, none => rfl
  | .option c, some x => pl_enc c x
theorem pl_encAll : ∀ (cs : List Codec) (a : Codec.denoteAll cs), plWs (Codec.encAll cs a) = true
  | [], _ => rfl
  | c :: cs, a => by
    show (plW (c.enc a.1) && plWs (Codec.encAll cs a.2)) = true
    rw [pl_enc c a.1, pl_encAll cs a.2] <;> rfl
theorem weight_mem : ∀ {xs : List WData} {d : WData}, d ∈ xs → d.weight ≤ WData.weightAll xs
  | [], d, h => absurd h (by simp)
  | x :: r, d, h => by
    show d.weight ≤ x.weight + 1 + WData.weightAll r
    rcases List.mem_cons.mp h with e | m
    · rw [e]
      (first | lia | omega)
    · have z := weight_mem m
      (first | lia | omega)
def toV : Value → V
  | .none => .non
  | .bool b => .bl b
  | .int i _ => .int i
  | .str x _ => .str x
  | .bytes b _ => .byt b
  | .ref a => .ref a
  | _ => .non
def OkU (A : List Addr) : Value → Prop
  | .none => True
  | .bool _ => True
  | .int _ _ => True
  | .str _ _ => True
  | .bytes _ _ => True
  | .ref a => a ∈ A
  | _ => False
theorem OkU.mono {A B : List Addr} (h : ∀ a ∈ A, a ∈ B) : ∀ {u : Value}, OkU A u → OkU B u := fun {u} x => by
  cases u with
  | ref a => exact h a x
  | none => trivial
  | bool b => trivial
  | int i t => trivial
  | str s t => trivial
  | bytes b t => trivial
  | _ => exact False.elim x
theorem relV_toV {A : List Addr} {u : Value} (x : OkU A u) : RelV (toV u) u := by
  cases u with
  | ref a => rfl
  | none => rfl
  | bool b => rfl
  | int i t => exact ⟨t, rfl⟩
  | str s t => exact ⟨t, rfl⟩
  | bytes b t => exact ⟨t, rfl⟩
  | _ => exact False.elim x
theorem vals_toV {A : List Addr} : ∀ {vs : List Value}, (∀ u ∈ vs, OkU A u) → Vals (vs.map toV) vs
  | [], _ => .nil
  | u :: r, h => .cons (relV_toV (h u (List.mem_cons_self ..))) (vals_toV fun x hx => h x (List.mem_cons_of_mem _ hx))
def ArgOb (h : Heap) (A : List Addr) (a : Addr) : Prop := ∃ vs : List Value, vs.length ≤ sizeLine ∧ (∀ u ∈ vs, OkU A u) ∧
  (h.get? a = some { cls := .type "list", data := .seq vs.toArray } ∨ h.get? a = some { cls := .type "tuple", data := .seq vs.toArray })
theorem ArgOb.mono {h : Heap} {A B : List Addr} {a : Addr} (k : ∀ a ∈ A, a ∈ B) (x : ArgOb h A a) : ArgOb h B a := by
  obtain ⟨vs, h1, h2, h3⟩ := x
  exact ⟨vs, h1, fun u hu => (h2 u hu).mono k, h3⟩
theorem wellAll_len {P : Params} {h : Heap} : ∀ {vs : List Value} {ds : List WData}, WellAll P h vs ds → vs.length = ds.length
  | _, _, .nil => rfl
  | _, _, .cons _ b => by
    show _ + 1 = _ + 1
    rw [wellAll_len b]
theorem well_list {P : Params} {h : Heap} {v : Value} {ds : List WData} (x : Well P h v (.list ds)) : ∃ (a : Addr) (vs : List Value), v = .ref a ∧ h.get? a = some { cls := .type "list", data := .seq vs.toArray } ∧ WellAll P h vs ds := by
  cases x with
  | list ho hall => exact ⟨_, _, rfl, ho, hall⟩
theorem well_tuple {P : Params} {h : Heap} {v : Value} {ds : List WData} (x : Well P h v (.tuple ds)) : ∃ (a : Addr) (vs : List Value), v = .ref a ∧ h.get? a = some { cls := .type "tuple", data := .seq vs.toArray } ∧ WellAll P h vs ds := by
  cases x with
  | tuple ho hall => exact ⟨_, _, rfl, ho, hall⟩
theorem well_cons {P : Params} {h : Heap} {us : List Value} {d : WData} {ds : List WData} (x : WellAll P h us (d :: ds)) : ∃ (v : Value) (vs : List Value), us = v :: vs ∧ Well P h v d ∧ WellAll P h vs ds := by
  cases x with
  | cons a b => exact ⟨_, _, rfl, a, b⟩
theorem line_of {n : Nat} (h : n ≤ 1048576) : n ≤ sizeLine := Nat.le_trans h (by decide)
section
variable {P : Params} {h : Heap}
mutual
theorem area_one : ∀ (d : WData) (v : Value), Well P h v d → plW d = true → d.weight ≤ 1048576 → ∃ A : List Addr, OkU A v ∧ ∀ a ∈ A, ArgOb h A a
  | .none, _, x, _, _ => by
    cases x
    exact ⟨[], trivial, fun a m => absurd m (by simp)⟩
  | .bool b, _, x, _, _ => by
    cases x
    exact ⟨[], trivial, fun a m => absurd m (by simp)⟩
  | .int i, _, x, _, _ => by
    cases x
    exact ⟨[], trivial, fun a m => absurd m (by simp)⟩
  | .str s, _, x, _, _ => by
    cases x
    exact ⟨[], trivial, fun a m => absurd m (by simp)⟩
  | .bytes b, _, x, _, _ => by
    cases x
    exact ⟨[], trivial, fun a m => absurd m (by simp)⟩
  | .list ds, _, x, p, z => by
    obtain ⟨a, vs, rfl, ho, hall⟩ := well_list x
    have z2 : WData.weightAll ds ≤ 1048576 := z
    obtain ⟨A, h1, h2⟩ := area_all ds _ hall p fun d hd => Nat.le_trans (weight_mem hd) z2
    have k : ∀ b ∈ A, b ∈ a :: A := fun b hb => List.mem_cons_of_mem _ hb
    refine ⟨a :: A, List.mem_cons_self .., fun b hb => ?_⟩
    rcases List.mem_cons.mp hb with e | m
    · rw [e]
      exact ⟨vs, line_of (by rw [wellAll_len hall]; exact Nat.le_trans (PySem.W.length_le_weightAllW ds) z2), fun u hu => (h1 u hu).mono k, .inl ho⟩
    · exact (h2 b m).mono k
  | .tuple ds, _, x, p, z => by
    obtain ⟨a, vs, rfl, ho, hall⟩ := well_tuple x
    have z2 : WData.weightAll ds ≤ 1048576 := z
    obtain ⟨A, h1, h2⟩ := area_all ds _ hall p fun d hd => Nat.le_trans (weight_mem hd) z2
    have k : ∀ b ∈ A, b ∈ a :: A := fun b hb => List.mem_cons_of_mem _ hb
    refine ⟨a :: A, List.mem_cons_self .., fun b hb => ?_⟩
    rcases List.mem_cons.mp hb with e | m
    · rw [e]
      exact ⟨vs, line_of (by rw [wellAll_len hall]; exact Nat.le_trans (PySem.W.length_le_weightAllW ds) z2), fun u hu => (h1 u hu).mono k, .inr ho⟩
    · exact (h2 b m).mono k
  | .float _, _, _, p, _ => Bool.noConfusion (show false = true from p)
  | .dict _, _, _, p, _ => Bool.noConfusion (show false = true from p)
  | .bytearray _, _, _, p, _ => Bool.noConfusion (show false = true from p)
  | .set _, _, _, p, _ => Bool.noConfusion (show false = true from p)
  | .frozenset _, _, _, p, _ => Bool.noConfusion (show false = true from p)
  | .obj _ _, _, _, p, _ => Bool.noConfusion (show false = true from p)
theorem area_all : ∀ (ds : List WData) (vs : List Value), WellAll P h vs ds → plWs ds = true → (∀ d ∈ ds, d.weight ≤ 1048576) → ∃ A : List Addr, (∀ u ∈ vs, OkU A u) ∧ ∀ a ∈ A, ArgOb h A a
  | [], _, x, _, _ => by
    cases x
    exact ⟨[], fun u m => absurd m (by simp), fun a m => absurd m (by simp)⟩
  | d :: ds, _, x, p, z => by
    obtain ⟨v, vs, rfl, x1, x2⟩ := well_cons x
    have q : plW d = true ∧ plWs ds = true := Bool.and_eq_true_iff.mp p
    obtain ⟨A, a1, a2⟩ := area_one d v x1 q.1 (z d (List.mem_cons_self ..))
    obtain ⟨B, b1, b2⟩ := area_all ds vs x2 q.2 fun e he => z e (List.mem_cons_of_mem _ he)
    have kA : ∀ b ∈ A, b ∈ A ++ B := fun b hb => List.mem_append.mpr (.inl hb)
    have kB : ∀ b ∈ B, b ∈ A ++ B := fun b hb => List.mem_append.mpr (.inr hb)
    refine ⟨A ++ B, fun u hu => ?_, fun b hb => ?_⟩
    · rcases List.mem_cons.mp hu with e | m
      · rw [e]
        exact a1.mono kA
      · exact (b1 u m).mono kB
    · rcases List.mem_append.mp hb with m | m
      · exact (a2 b m).mono kA
      · exact (b2 b m).mono kB
end
end
def hoOf (o : Obj) : Option HO := match o.data with
  | .seq vs _ => if (o.cls == Value.type "list") = true then some (.frz o (.lst (vs.toList.map toV))) else some (.frz o (.tup (vs.toList.map toV)))
  | _ => none
def argH (K : PySem.W.Frag) (h : Heap) (A : List Addr) : Hp := fun b => if b ∈ A then (if (K.lookup b).isNone = true then (h.get? b).bind hoOf else none) else none
def OnlyF (H : Hp) : Prop := ∀ b, H b = none ∨ ∃ o u, H b = some (.frz o u)
theorem hoOf_lst (vs : List Value) : hoOf { cls := .type "list", data := .seq vs.toArray } = some (.frz { cls := .type "list", data := .seq vs.toArray } (.lst (vs.map toV))) := by
  show (if (Value.type "list" == Value.type "list") = true then some (HO.frz { cls := .type "list", data := .seq vs.toArray } (.lst (vs.toArray.toList.map toV))) else some (HO.frz { cls := .type "list", data := .seq vs.toArray } (.tup (vs.toArray.toList.map toV)))) = _
  rw [if_pos (beq_self_eq_true _)]
theorem hoOf_tup (vs : List Value) : hoOf { cls := .type "tuple", data := .seq vs.toArray } = some (.frz { cls := .type "tuple", data := .seq vs.toArray } (.tup (vs.map toV))) := by
  show (if (Value.type "tuple" == Value.type "list") = true then some (HO.frz { cls := .type "tuple", data := .seq vs.toArray } (.lst (vs.toArray.toList.map toV))) else some (HO.frz { cls := .type "tuple", data := .seq vs.toArray } (.tup (vs.toArray.toList.map toV)))) = _
  rw [if_neg (by decide)]
section
variable {P : Program} {w : World} {K : PySem.W.Frag} {h : Heap} {A : List Addr}
theorem argH_at {b : Addr} {o : Obj} (hb : b ∈ A) (hk : K.lookup b = none) (e : h.get? b = some o) : argH K h A b = hoOf o := by
  unfold argH
  rw [if_pos hb, hk, if_pos (show (none : Option Obj).isNone = true from rfl), e] <;> rfl
theorem of_argH {b : Addr} {u : HO} (q : argH K h A b = some u) : b ∈ A ∧ K.lookup b = none := by
  unfold argH at q
  by_cases hb : b ∈ A
  · rw [if_pos hb] at q
    cases hk : K.lookup b with
    | none => exact ⟨hb, rfl⟩
    | some o =>
      rw [hk, if_neg (by simp)] at q
      cases q
  · rw [if_neg hb] at q
    cases q
theorem argH_is (ar : ∀ a ∈ A, ArgOb h A a) {b : Addr} {u : HO} (q : argH K h A b = some u) : K.lookup b = none ∧ ∃ vs : List Value, vs.length ≤ sizeLine ∧ (∀ u ∈ vs, OkU A u) ∧
    ((h.get? b = some { cls := .type "list", data := .seq vs.toArray } ∧ u = .frz { cls := .type "list", data := .seq vs.toArray } (.lst (vs.map toV))) ∨
     (h.get? b = some { cls := .type "tuple", data := .seq vs.toArray } ∧ u = .frz { cls := .type "tuple", data := .seq vs.toArray } (.tup (vs.map toV)))) := by
  obtain ⟨hb, hk⟩ := of_argH q
  obtain ⟨vs, h1, h2, h3⟩ := ar b hb
  refine ⟨hk, vs, h1, h2, ?_⟩
  rcases h3 with e | e
  · rw [argH_at hb hk e, hoOf_lst] at q
    exact .inl ⟨e, (Option.some.inj q).symm⟩
  · rw [argH_at hb hk e, hoOf_tup] at q
    exact .inr ⟨e, (Option.some.inj q).symm⟩
theorem argH_only (ar : ∀ a ∈ A, ArgOb h A a) : OnlyF (argH K h A) := fun b => by
  cases q : argH K h A b with
  | none => exact .inl rfl
  | some u =>
    obtain ⟨_, vs, _, _, ⟨_, e⟩ | ⟨_, e⟩⟩ := argH_is ar q
    · exact .inr ⟨_, _, by rw [e]⟩
    · exact .inr ⟨_, _, by rw [e]⟩
theorem argH_ok (ar : ∀ a ∈ A, ArgOb h A a) : HOk P w (argH K h A) h := fun b u q => by
  obtain ⟨_, vs, h1, h2, ⟨e, rfl⟩ | ⟨e, rfl⟩⟩ := argH_is ar q
  · exact ⟨e, by rw [List.length_map]; exact h1, vs, _, vals_toV h2, e⟩
  · exact ⟨e, by rw [List.length_map]; exact h1, vs, vals_toV h2, _, e, rfl, _, rfl⟩
theorem seq_inj {c c' : Value} {vs us : List Value} (e : (some { cls := c, data := .seq vs.toArray } : Option Obj) = some { cls := c', data := .seq us.toArray }) : c = c' ∧ vs = us := by
  have e1 := Option.some.inj e
  have e2 : c = c' := congrArg Obj.cls e1
  have e3 : Data.seq vs.toArray = Data.seq us.toArray := congrArg Obj.data e1
  injection e3 with e4
  refine ⟨e2, ?_⟩
  have e5 := congrArg Array.toList e4
  simpa using e5
theorem argL (KX : K.In h) (ar : ∀ a ∈ A, ArgOb h A a) {a : Addr} {vs : List Value} (ha : a ∈ A) (e : h.get? a = some { cls := .type "list", data := .seq vs.toArray }) : (∀ u ∈ vs, OkU A u) ∧ SqL K (argH K h A) a (vs.map toV) := by
  obtain ⟨us, h1, h2, h3⟩ := ar a ha
  have hu : us = vs := by
    rcases h3 with q | q
    · rw [e] at q
      exact (seq_inj q).2.symm
    · rw [e] at q
      exact absurd (Value.type.inj (seq_inj q).1) (by decide)
  subst hu
  refine ⟨h2, ?_⟩
  cases hk : K.lookup a with
  | none => exact .inl (.inr ⟨_, by rw [argH_at ha hk e, hoOf_lst]⟩)
  | some o =>
    have e2 := KX a o hk
    rw [e] at e2
    obtain rfl := Option.some.inj e2
    exact .inr ⟨_, us.toArray, _, hk, rfl, rfl, rfl, by rw [List.size_toArray]; exact h1, by simpa using vals_toV h2⟩
theorem argT (KX : K.In h) (ar : ∀ a ∈ A, ArgOb h A a) {a : Addr} {vs : List Value} (ha : a ∈ A) (e : h.get? a = some { cls := .type "tuple", data := .seq vs.toArray }) : (∀ u ∈ vs, OkU A u) ∧ SqT K (argH K h A) a (vs.map toV) := by
  obtain ⟨us, h1, h2, h3⟩ := ar a ha
  have hu : us = vs := by
    rcases h3 with q | q
    · rw [e] at q
      exact absurd (Value.type.inj (seq_inj q).1) (by decide)
    · rw [e] at q
      exact (seq_inj q).2.symm
  subst hu
  refine ⟨h2, ?_⟩
  cases hk : K.lookup a with
  | none => exact .inl (.inr ⟨_, by rw [argH_at ha hk e, hoOf_tup]⟩)
  | some o =>
    have e2 := KX a o hk
    rw [e] at e2
    obtain rfl := Option.some.inj e2
    exact .inr ⟨_, us.toArray, _, hk, rfl, rfl, by rw [List.size_toArray]; exact h1, by simpa using vals_toV h2⟩
mutual
theorem dw_one {Pm : Params} (KX : K.In h) (ar : ∀ a ∈ A, ArgOb h A a) : ∀ (d : WData) (v : Value), Well Pm h v d → plW d = true → OkU A v → Dw K (argH K h A) (toV v) d
  | .none, _, x, _, _ => by
    cases x
    exact .non
  | .bool b, _, x, _, _ => by
    cases x
    exact .bl b
  | .int i, _, x, _, _ => by
    cases x
    exact .int i
  | .str s, _, x, _, _ => by
    cases x
    exact .str s
  | .bytes b, _, x, _, _ => by
    cases x
    have z := Dw.byt (K := K) (H := argH K h A) b.toArray
    exact z
  | .list ds, _, x, p, hu => by
    obtain ⟨a, vs, rfl, ho, hall⟩ := well_list x
    obtain ⟨h2, hs⟩ := argL KX ar hu ho
    exact .lst hs (dw_all KX ar ds _ hall p h2)
  | .tuple ds, _, x, p, hu => by
    obtain ⟨a, vs, rfl, ho, hall⟩ := well_tuple x
    obtain ⟨h2, hs⟩ := argT KX ar hu ho
    exact .tup hs (dw_all KX ar ds _ hall p h2)
  | .float _, _, _, p, _ => Bool.noConfusion (show false = true from p)
  | .dict _, _, _, p, _ => Bool.noConfusion (show false = true from p)
  | .bytearray _, _, _, p, _ => Bool.noConfusion (show false = true from p)
  | .set _, _, _, p, _ => Bool.noConfusion (show false = true from p)
  | .frozenset _, _, _, p, _ => Bool.noConfusion (show false = true from p)
  | .obj _ _, _, _, p, _ => Bool.noConfusion (show false = true from p)
theorem dw_all {Pm : Params} (KX : K.In h) (ar : ∀ a ∈ A, ArgOb h A a) : ∀ (ds : List WData) (vs : List Value), WellAll Pm h vs ds → plWs ds = true → (∀ u ∈ vs, OkU A u) → DwAll K (argH K h A) (vs.map toV) ds
  | [], _, x, _, _ => by
    cases x
    exact .nil
  | d :: ds, _, x, p, hu => by
    obtain ⟨v, vs, rfl, x1, x2⟩ := well_cons x
    have q : plW d = true ∧ plWs ds = true := Bool.and_eq_true_iff.mp p
    exact .cons (dw_one KX ar d v x1 q.1 (hu _ (List.mem_cons_self ..))) (dw_all KX ar ds vs x2 q.2 fun u m => hu u (List.mem_cons_of_mem _ m))
end
end
theorem spec_call {P : Program} {w : World} {K : PySem.W.Frag} {mg mb : Str → Option Value} {CX : CXT} {k : Nat} {fa : Addr} {fd : FuncData} {ps : List Str} {sp : Sp} {s₁ : Shared} {vals : List Value} {ds : List WData} {R : PySem.W.WRecords} {cl : Str → Option Addr} {d0 : WData}
    (KX : K.In s₁.heap) (hns : s₁.heap.Ns mainGlobals mg) (hb : s₁.heap.Ns builtinsNs mb) (hbb : ∀ x : Str, x ≠ "__name__" → mb x = bootBuiltins x) (hlim : s₁.heap.NoLimit) (hg : s₁.gens = #[])
    (hwl : WellAll w.params s₁.heap vals ds) (hpl : plWs ds = true) (hwt : ∀ d ∈ ds, d.weight ≤ 1048576) (hr : Room k callerA)
    (F : ∀ base : Heap, K.In base → base.Ns mainGlobals mg → FnOk P w K mg base CX k fa fd ps sp) (hbind : ∀ (s : Shared) (us : List Value), us.length = ps.length → BindsTo s fd ⟨us, []⟩ (ps.zip us)) (hlen : ds.length = ps.length)
    (hsp : ∀ (H : Hp) (xs : List V), OnlyF H → DwAll K H xs ds → sp xs H (fun v H' => Dw K H' v d0) fun _ _ _ => False)
    (hCX : ∀ H e s', CX [] H s₁ (fun _ _ _ => False) e s' → False) :
    codeAny (model P w) callerA (.call (.ref fa) ⟨vals, []⟩) (fun r s' => ∃ u as, r = .ok (.ret u) ∧ ReadsW R cl s'.heap u d0 as ∧ OldK s₁.heap s'.heap ∧ s'.os = s₁.os ∧ AllBare s'.gens) s₁ := by
  obtain ⟨A, ho, ar⟩ := area_all ds vals hwl hpl hwt
  have hO : OnlyF (argH K s₁.heap A) := argH_only ar
  have hok : HOk P w (argH K s₁.heap A) s₁.heap := argH_ok ar
  have hS := dw_all KX ar ds vals hwl hpl ho
  have hV := vals_toV ho
  have hK : ∀ b u, argH K s₁.heap A b = some u → K.lookup b = none := fun b u q => (argH_is ar q).1
  have noA : ∀ {b : Addr} {o : Obj} {es : Array DictEntry} {ep : Nat}, s₁.heap.get? b = some o → o.data = .dict es ep → argH K s₁.heap A b = none := fun {b o es ep} e d => by
    cases q : argH K s₁.heap A b with
    | none => rfl
    | some u =>
      obtain ⟨_, vs, _, _, ⟨e2, _⟩ | ⟨e2, _⟩⟩ := argH_is ar q
      · rw [e2] at e
        cases e
        have d' : Data.seq vs.toArray _ = Data.dict es ep := d
        cases d'
      · rw [e2] at e
        cases e
        have d' : Data.seq vs.toArray _ = Data.dict es ep := d
        cases d'
  generalize argH K s₁.heap A = H at hO hok hS hK noA
  have base_of : ∀ {b : Addr} {o : Obj}, s₁.heap.get? b = some o → H b = none → (hidT s₁.heap H).get? b = some o := fun e n => hidT_get e n
  have nsK : ∀ {b : Addr} {m : Str → Option Value}, s₁.heap.Ns b m → (hidT s₁.heap H).Ns b m := fun {b m} ⟨o, es, ep, e, d, r⟩ => ⟨o, es, ep, base_of e (noA e d), d, r⟩
  have nK : ∀ b o, K.lookup b = some o → H b = none := fun b o e => by
    cases q : H b with
    | none => rfl
    | some u =>
      rw [hK b u q] at e
      cases e
  have hKb : K.In (hidT s₁.heap H) := fun b o e => base_of (KX b o e) (nK b o e)
  have hM : Mod K mg (hidT s₁.heap H) := ⟨hKb, nsK hns, ⟨mb, nsK hb, hbb⟩, let ⟨mc, h1, h2⟩ := hlim; ⟨mc, nsK h1, h2⟩⟩
  have e0 : Env0 P w K mg (hidT s₁.heap H) callerA [] s₁ H := ⟨rfl, hM, fun b o e => of_hidT e, Nat.le_of_eq (hidT_size _ _), trivial, fun b hb => absurd (show b ∈ ([] : List Addr) from hb) (by simp), hok, .of_eq hg⟩
  have hl : vals.length = ps.length := by rw [wellAll_len hwl]; exact hlen
  refine codeAny_mono ((F _ hKb (nsK hns)).run callerA [] s₁ H ⟨vals, []⟩ vals (vals.map toV) _ _ hr e0 (hbind s₁ vals hl) hV (hsp H _ hO hS)) fun r s' x => ?_
  cases r with
  | error e => exact (hCX H e s' x).elim
  | ok fl =>
    cases fl with
    | next => exact False.elim x
    | brk => exact False.elim x
    | cont => exact False.elim x
    | ret u =>
      obtain ⟨v, H', os, bare, un, hok', r', q⟩ := x
      have kept : ∀ b o, s₁.heap.get? b = some o → s'.heap.get? b = some o := fun b o e => by
        cases q2 : H b with
        | none => exact un.keep b o e q2 (by intro z; exact absurd (show b ∈ ([] : List Addr) from z) (by simp)) (by simp)
        | some u2 =>
          rcases hO b with z | ⟨ob, u3, z⟩
          · rw [q2] at z
            cases z
          · have z2 := un.frzs b ob _ z
            obtain ⟨e1, _⟩ := hok b _ z
            obtain ⟨e2, _⟩ := hok' b _ z2
            rw [e] at e1
            cases e1
            exact e2
      have KX' : K.In s'.heap := fun b o e => kept b o (KX b o e)
      obtain ⟨as, hrd⟩ := Dw.reads (R := R) (cl := cl) hok' KX' d0 v u q r'
      exact ⟨u, as, rfl, hrd, OldK.of_keep kept, os, bare⟩
theorem layable_weight {ds : List WData} (h : WData.layableAll ds = true) : ∀ d ∈ ds, d.weight ≤ 1048576 := fun d hd =>
  (PySem.W.layableW_iff.mp (List.all_eq_true.mp h d hd)).2.2
theorem encAll_len : ∀ (cs : List Codec) (a : Codec.denoteAll cs), (Codec.encAll cs a).length = cs.length
  | [], _ => rfl
  | c :: cs, a => by
    show (Codec.encAll cs a.2).length + 1 = cs.length + 1
    rw [encAll_len cs a.2]
theorem walk_spec {r : OpenSpec} {k : Nat} {q : Program} {loose : List Str} {XP : (Str → Option Value) → Heap → Prop} {YP : World → Heap → Prop} {d : DefRec} {K : Params → PySem.W.Frag} {CX : World → CXT} {ps : List Str} {sp : World → Sp}
    (hwell : r.wellSaid = true) (hdf : d.params.defaults = []) (hlen : r.args.length = ps.length) (hr : Room k callerA)
    (hY : ∀ (w : World) (h : Heap), YP w h → (K w.params).In h)
    (F : ∀ (w : World) (mg : Str → Option Value) (fa : Addr) (h : Heap), YP w h → (K w.params).In h → h.Ns mainGlobals mg → mg d.name = some (.ref fa) →
      ∃ fd : FuncData, (∀ (s : Shared) (us : List Value), us.length = ps.length → BindsTo s fd ⟨us, []⟩ (ps.zip us)) ∧
        ∀ base : Heap, (K w.params).In base → base.Ns mainGlobals mg → FnOk r.prog w (K w.params) mg base (CX w) k fa fd ps (sp w))
    (hsp : ∀ (w : World) (H : Hp) (xs : List V) (a : Codec.denoteAll r.args), OnlyF H → Codec.withinAll r.args a = true → Codec.app r.args r.asked a = true → DwAll (K w.params) H xs (Codec.encAll r.args a) →
      sp w xs H (fun v H' => Dw (K w.params) H' v (r.ret.enc (Codec.app r.args r.f a))) fun _ _ _ => False)
    (hCX : ∀ (w : World) (H : Hp) (s : Shared) (e : Value) (s' : Shared), CX w [] H s (fun _ _ _ => False) e s' → False) :
    PySem.W.WalkOS q loose XP YP r d [] (fun f vs => PySem.call f vs) := by
  intro w s_0 s₁ mg mb G Y fa o pm cd doc dV kV ho hd hcd hD hmg hg args vals as hpre hlay hrd hwl hlo
  obtain ⟨a, e1, e2⟩ := PySem.W.os_pre_some hpre
  obtain ⟨e3, hwi⟩ := Codec.encAll_of_decAll r.args args a e1
  subst e3
  have KX := hY w _ Y
  obtain ⟨fd, hb, hF⟩ := F w mg fa _ Y KX G.T.g hmg
  refine PySem.W.enter_call (codeAny_mono (spec_call (R := []) (cl := classAt s_0.heap) (d0 := r.ret.enc (Codec.app r.args r.f a)) KX G.T.g G.T.b G.T.builtins G.T.nolimit hg hwl (pl_encAll _ _) (layable_weight hlay) hr hF hb (by rw [encAll_len]; exact hlen)
    (fun H xs hO hS => hsp w H xs a hO hwi e2 hS) fun H e s' => hCX w H s₁ e s') fun r' s' hq => ?_)
  obtain ⟨u, as', rfl, h1, h2, h3, h4⟩ := hq
  exact ⟨.inl ⟨u, _, as', rfl, fun _ => rfl, h1, (OpenSpec.post_iff hwell hwi _ _).mpr rfl, fun z => Bool.noConfusion (show false = true from z)⟩, h2, h3, h4⟩
theorem walk_specK {r : OpenSpec} {k : Nat} {q : Program} {loose : List Str} {XP : (Str → Option Value) → Heap → Prop} {YP : World → Heap → Prop} {d : DefRec} {K : Params → PySem.W.Frag} {CX : CXT} {ps : List Str} {sp : PySem.W.Frag → Sp}
    (hwell : r.wellSaid = true) (hdf : d.params.defaults = []) (hlen : r.args.length = ps.length) (hr : Room k callerA)
    (hY : ∀ (w : World) (h : Heap), YP w h → (K w.params).In h)
    (F : ∀ (w : World) (mg : Str → Option Value) (fa : Addr) (h : Heap), YP w h → (K w.params).In h → h.Ns mainGlobals mg → mg d.name = some (.ref fa) →
      ∃ fd : FuncData, (∀ (s : Shared) (us : List Value), us.length = ps.length → BindsTo s fd ⟨us, []⟩ (ps.zip us)) ∧
        ∀ base : Heap, (K w.params).In base → base.Ns mainGlobals mg → FnOk r.prog w (K w.params) mg base CX k fa fd ps (sp (K w.params)))
    (hsp : ∀ (K : PySem.W.Frag) (H : Hp) (xs : List V) (a : Codec.denoteAll r.args), OnlyF H → Codec.withinAll r.args a = true → Codec.app r.args r.asked a = true → DwAll K H xs (Codec.encAll r.args a) →
      sp K xs H (fun v H' => Dw K H' v (r.ret.enc (Codec.app r.args r.f a))) fun _ _ _ => False)
    (hCX : ∀ (H : Hp) (s : Shared) (e : Value) (s' : Shared), CX [] H s (fun _ _ _ => False) e s' → False) :
    PySem.W.WalkOS q loose XP YP r d [] (fun f vs => PySem.call f vs) :=
  walk_spec (K := K) (CX := fun _ => CX) (sp := fun w => sp (K w.params)) hwell hdf hlen hr hY F (fun w H xs a h1 h2 h3 h4 => hsp (K w.params) H xs a h1 h2 h3 h4) fun _ H s e s' => hCX H s e s'
end L2
end
end
section
open Sy15 Sy15Neutral
namespace WS
def Sem : T → Val → Prop
  | .less a b, v => a.of_ v < b.of_ v
  | .same a b, v => a.of_ v = b.of_ v
  | .rest a m r, v => a.of_ v % m = r
  | .not t, v => ¬ Sem t v
  | .and s t, v => Sem s v ∧ Sem t v
  | .or s t, v => Sem s v ∨ Sem t v
  | .then_ s t, v => Sem s v → Sem t v
  | .all u t, v => ∀ n, Sem t (put v u n)
  | .some_ u t, v => ∃ n, Sem t (put v u n)
def WF : T → Prop
  | .less _ _ => True
  | .same _ _ => True
  | .rest _ m r => 2 ≤ m ∧ r < m
  | .not t => WF t
  | .and s t => WF s ∧ WF t
  | .or s t => WF s ∧ WF t
  | .then_ s t => WF s ∧ WF t
  | .all u t => u < 3 ∧ WF t
  | .some_ u t => u < 3 ∧ WF t
def SS (a b : Int) : Prop := (a < 0 ↔ b < 0) ∧ (a = 0 ↔ b = 0)
theorem SS.refl (a : Int) : SS a a := ⟨Iff.rfl, Iff.rfl⟩
theorem SS.of_eq {a b : Int} (h : a = b) : SS a b := by subst h; exact SS.refl _
theorem SS.symm {a b : Int} (h : SS a b) : SS b a := ⟨h.1.symm, h.2.symm⟩
theorem SS.trans {a b c : Int} (h : SS a b) (g : SS b c) : SS a c := ⟨h.1.trans g.1, h.2.trans g.2⟩
theorem SS.mul {a b s : Int} (hs : s ≠ 0) (h : SS (s * a) (s * b)) : SS a b := by
  unfold SS at *
  rcases Int.lt_or_gt_of_ne hs with h1 | h1
  · have key : ∀ x : Int, (s * x < 0 ↔ 0 < x) ∧ (s * x = 0 ↔ x = 0) := by
      intro x
      refine ⟨⟨fun h => ?_, fun h => Int.mul_neg_of_neg_of_pos h1 h⟩, ⟨fun h => ?_, fun h => by simp [h]⟩⟩
      · rcases Int.lt_trichotomy x 0 with g | g | g
        · have := Int.mul_pos_of_neg_of_neg h1 g; lia
        · subst g; simp at h
        · exact g
      · rcases Int.mul_eq_zero.mp h with g | g
        · lia
        · exact g
    have ka := key a
    have kb := key b
    lia
  · have key : ∀ x : Int, (s * x < 0 ↔ x < 0) ∧ (s * x = 0 ↔ x = 0) := by
      intro x
      refine ⟨⟨fun h => ?_, fun h => Int.mul_neg_of_pos_of_neg h1 h⟩, ⟨fun h => ?_, fun h => by simp [h]⟩⟩
      · rcases Int.lt_trichotomy x 0 with g | g | g
        · exact g
        · subst g; simp at h
        · have := Int.mul_pos h1 g; lia
      · rcases Int.mul_eq_zero.mp h with g | g
        · lia
        · exact g
    have ka := key a
    have kb := key b
    lia
theorem SS.scale {a b s : Int} (hs : s ≠ 0) (h : SS a b) : SS (s * a) (s * b) := by
  unfold SS at *
  rcases Int.lt_trichotomy a 0 with g | g | g
  · have g2 : b < 0 := by lia
    rcases Int.lt_or_gt_of_ne hs with h1 | h1
    · have := Int.mul_pos_of_neg_of_neg h1 g; have := Int.mul_pos_of_neg_of_neg h1 g2; lia
    · have := Int.mul_neg_of_pos_of_neg h1 g; have := Int.mul_neg_of_pos_of_neg h1 g2; lia
  · have g2 : b = 0 := by lia
    subst g g2; simp
  · have g2 : 0 < b := by lia
    rcases Int.lt_or_gt_of_ne hs with h1 | h1
    · have := Int.mul_neg_of_neg_of_pos h1 g; have := Int.mul_neg_of_neg_of_pos h1 g2; lia
    · have := Int.mul_pos h1 g; have := Int.mul_pos h1 g2; lia
theorem SS.lin {d n n' A B : Int} (hn : B < n) (hn' : B < n') (hA : -B ≤ A) (hA' : A ≤ B) : SS (d * n + A) (d * n' + A) := by
  have hB : 0 ≤ B := by lia
  unfold SS
  rcases Int.lt_trichotomy d 0 with g | g | g
  · have h1 : d * n ≤ (-1) * n := Int.mul_le_mul_of_nonneg_right (by lia) (by lia)
    have h2 : d * n' ≤ (-1) * n' := Int.mul_le_mul_of_nonneg_right (by lia) (by lia)
    (clear g hB hA; omega)
  · subst g; simp
  · have h1 : 1 * n ≤ d * n := Int.mul_le_mul_of_nonneg_right (by lia) (by lia)
    have h2 : 1 * n' ≤ d * n' := Int.mul_le_mul_of_nonneg_right (by lia) (by lia)
    (clear g hB hA'; omega)
abbrev Br := Sum × Sum × Nat
def dif (x : Br) (v : Val) : Int := (x.1.of_ v : Int) - (x.2.1.of_ v : Int)
def kof (x : Br) (w : Nat) : Int := (coef x.1 w : Int) - (coef x.2.1 w : Int)
theorem lt3 {w : Nat} (h : w < 3) : w = 0 ∨ w = 1 ∨ w = 2 := by lia
theorem of_put (s : Sum) (v : Val) {w : Nat} (hw : w < 3) (n : Nat) : s.of_ (put v w n) = coef s w * n + s.of_ (put v w 0) := by
  rcases lt3 hw with rfl | rfl | rfl <;> simp [Sum.of_, put, coef] <;> lia
theorem dif_put (x : Br) (v : Val) {w : Nat} (hw : w < 3) (n : Nat) : dif x (put v w n) = kof x w * (n : Int) + constOf x.1 x.2.1 v [w] := by
  obtain ⟨a, b, m⟩ := x
  rcases lt3 hw with rfl | rfl | rfl <;> simp [dif, kof, Sum.of_, put, coef, constOf, List.range, List.range.loop] <;> grind
theorem const_put (x : Br) (v : Val) {u w : Nat} (hu : u < 3) (hw : w < 3) (huw : u ≠ w) (n : Nat) : constOf x.1 x.2.1 (put v u n) [w] = kof x u * (n : Int) + constOf x.1 x.2.1 v [u, w] := by
  obtain ⟨a, b, m⟩ := x
  rcases lt3 hu with rfl | rfl | rfl <;> rcases lt3 hw with rfl | rfl | rfl <;> first | exact absurd rfl huw | (simp [kof, put, coef, constOf, List.range, List.range.loop] <;> grind)
theorem put_put (v : Val) (u m n : Nat) : put (put v u m) u n = put v u n := by
  funext k; unfold put; split <;> rfl
theorem put_comm (v : Val) {u w : Nat} (h : u ≠ w) (m n : Nat) : put (put v u m) w n = put (put v w n) u m := by
  funext k; unfold put
  split
  · split
    · lia
    · rfl
  · rfl
theorem sem_congr : ∀ {t : T} {v v' : Val}, depth t = 0 → WF t → (∀ x ∈ brackets t, x.2.2 = 0 → SS (dif x v) (dif x v')) →
    (∀ x ∈ brackets t, x.2.2 ≠ 0 → x.1.of_ v % x.2.2 = x.1.of_ v' % x.2.2) → (Sem t v ↔ Sem t v') := by
  intro t
  induction t with
  | less a b =>
    intro v v' _ _ hc _
    have h := hc (a, b, 0) (by simp [brackets]) rfl
    simp only [Sem, SS, dif] at *
    lia
  | same a b =>
    intro v v' _ _ hc _
    have h := hc (a, b, 0) (by simp [brackets]) rfl
    simp only [Sem, SS, dif] at *
    lia
  | rest a m r =>
    intro v v' _ wf _ hr
    have h := hr (a, ⟨0, 0, 0, 0⟩, m) (by simp [brackets]) (by simp only [WF] at wf; show m ≠ 0; lia)
    simp only [Sem]
    have h' : a.of_ v % m = a.of_ v' % m := h
    rw [h']
  | not t ih =>
    intro v v' hd wf hc hr
    exact not_congr (ih hd wf hc hr)
  | and s t ihs iht =>
    intro v v' hd wf hc hr
    simp only [depth] at hd
    simp only [brackets, List.mem_append] at hc hr
    exact and_congr (ihs (by lia) wf.1 (fun x hx => hc x (.inl hx)) (fun x hx => hr x (.inl hx))) (iht (by lia) wf.2 (fun x hx => hc x (.inr hx)) (fun x hx => hr x (.inr hx)))
  | or s t ihs iht =>
    intro v v' hd wf hc hr
    simp only [depth] at hd
    simp only [brackets, List.mem_append] at hc hr
    exact or_congr (ihs (by lia) wf.1 (fun x hx => hc x (.inl hx)) (fun x hx => hr x (.inl hx))) (iht (by lia) wf.2 (fun x hx => hc x (.inr hx)) (fun x hx => hr x (.inr hx)))
  | then_ s t ihs iht =>
    intro v v' hd wf hc hr
    simp only [depth] at hd
    simp only [brackets, List.mem_append] at hc hr
    exact imp_congr (ihs (by lia) wf.1 (fun x hx => hc x (.inl hx)) (fun x hx => hr x (.inl hx))) (iht (by lia) wf.2 (fun x hx => hc x (.inr hx)) (fun x hx => hr x (.inr hx)))
  | all u t ih => intro v v' hd; simp [depth] at hd
  | some_ u t ih => intro v v' hd; simp [depth] at hd
theorem so0_iff : ∀ {t : T} {v : Val}, depth t = 0 → (so0 t v = true ↔ Sem t v) := by
  intro t
  induction t with
  | less a b => intro v _; simp [so0, Sem]
  | same a b => intro v _; simp [so0, Sem]
  | rest a m r => intro v _; simp [so0, Sem]
  | not t ih => intro v hd; have := @ih v hd; simp only [so0, Sem, ← this]; simp
  | and s t ihs iht =>
    intro v hd
    simp only [depth] at hd
    have h1 := @ihs v (by lia)
    have h2 := @iht v (by (clear h1 v iht ihs; lia))
    simp only [so0, Sem, ← h1, ← h2]; simp
  | or s t ihs iht =>
    intro v hd
    simp only [depth] at hd
    have h1 := @ihs v (by lia)
    have h2 := @iht v (by lia)
    simp only [so0, Sem, ← h1, ← h2]; simp
  | then_ s t ihs iht =>
    intro v hd
    simp only [depth] at hd
    have h1 := @ihs v (by lia)
    have h2 := @iht v (by lia)
    simp only [so0, Sem, ← h1, ← h2]
    cases so0 s v <;> simp
  | all u t ih => intro v hd; simp [depth] at hd
  | some_ u t ih => intro v hd; simp [depth] at hd
theorem lcm_fold_dvd : ∀ (l : List Nat) (a : Nat), a ∣ l.foldl Nat.lcm a ∧ ∀ x ∈ l, x ∣ l.foldl Nat.lcm a
  | [], a => ⟨Nat.dvd_refl _, by simp⟩
  | y :: l, a => by
    have ih := lcm_fold_dvd l (Nat.lcm a y)
    rw [List.foldl_cons]
    refine ⟨Nat.dvd_trans (Nat.dvd_lcm_left a y) ih.1, fun x hx => ?_⟩
    rcases List.mem_cons.mp hx with rfl | hx
    · exact Nat.dvd_trans (Nat.dvd_lcm_right a x) ih.1
    · exact ih.2 x hx
theorem lcm_fold_pos : ∀ (l : List Nat) (a : Nat), 0 < a → (∀ x ∈ l, 0 < x) → 0 < l.foldl Nat.lcm a
  | [], _, h, _ => h
  | y :: l, a, h, hl => by
    rw [List.foldl_cons]
    exact lcm_fold_pos l _ (Nat.lcm_pos h (hl y (by simp))) fun x hx => hl x (by simp [hx])
theorem dvd_lcms {l : List Nat} {x : Nat} (h : x ∈ l) : x ∣ lcms l := (lcm_fold_dvd l 1).2 x h
theorem lcms_pos {l : List Nat} (h : ∀ x ∈ l, 0 < x) : 0 < lcms l := lcm_fold_pos l 1 (by decide) h
end WS
end
section
open Sy15 Sy15Neutral
namespace WS
theorem rest_shift (a : Sum) (v : Val) {w : Nat} (hw : w < 3) (n p m : Nat) (h : m ∣ p) : a.of_ (put v w (n + p)) % m = a.of_ (put v w n) % m := by
  rw [of_put a v hw (n + p), of_put a v hw n]
  obtain ⟨q, rfl⟩ := h
  have e : coef a w * (n + m * q) + a.of_ (put v w 0) = coef a w * n + a.of_ (put v w 0) + m * (coef a w * q) := by grind
  rw [e, Nat.add_mul_mod_self_left]
theorem least_of {P : Nat → Prop} (h : ∃ n, P n) : ∃ n, P n ∧ ∀ m, m < n → ¬ P m := by
  obtain ⟨n, hn⟩ := h
  induction n using Nat.strongRecOn with
  | ind n ih =>
    by_cases g : ∃ m, m < n ∧ P m
    · obtain ⟨m, hm, pm⟩ := g
      exact ih m hm pm
    · exact ⟨n, hn, fun m hm pm => g ⟨m, hm, pm⟩⟩
def per (t : T) : Nat := lcms (((brackets t).map fun (x : Br) => x.2.2).filter fun (m : Nat) => m != 0)
theorem per_pos (t : T) : 0 < per t := lcms_pos fun x hx => by
  simp at hx
  lia
theorem dvd_per {t : T} {x : Br} (h : x ∈ brackets t) (h0 : x.2.2 ≠ 0) : x.2.2 ∣ per t := dvd_lcms (by simp; exact ⟨⟨x.1, x.2.1, h⟩, h0⟩)
theorem mulL {k a b : Int} (hk : 0 ≤ k) (h : a ≤ b) : k * a ≤ k * b := Int.mul_le_mul_of_nonneg_left h hk
theorem SS.neg {a b : Int} (h : SS a b) : SS (-a) (-b) := by unfold SS at *; lia
theorem behind_pos {k c : Int} {n p : Int} (hp : 0 < p) (h1 : 0 < k) (h : ¬ SS (k * (n - p) + c) (k * n + c)) :
    (Int.fdiv (-c) k ≤ n ∧ n < Int.fdiv (-c) k + p) ∨ (Int.fdiv (-c) k + 1 ≤ n ∧ n < Int.fdiv (-c) k + 1 + p) := by
  have e := Int.mul_fdiv_add_fmod (-c) k
  have r1 : 0 ≤ Int.fmod (-c) k := Int.fmod_nonneg_of_pos _ h1
  have r2 : Int.fmod (-c) k < k := Int.fmod_lt_of_pos _ h1
  generalize hq : Int.fdiv (-c) k = q at *
  generalize hr : Int.fmod (-c) k = r at *
  have a1 : k * (n - p) + c = k * (n - p - q) - r := by grind
  have a2 : k * n + c = k * (n - q) - r := by grind
  rw [a1, a2] at h
  by_cases g1 : n < q
  · exfalso
    have b1 := mulL (k := k) (by lia) (show n - p - q ≤ -1 by (clear a1 e r2 r1 hr h hq h1; lia))
    have b2 := mulL (k := k) (by lia) (show n - q ≤ -1 by (clear b1 a1 e r2 r1 hr h hq h1; lia))
    exact h (by unfold SS; (clear g1 a2 a1 e r2 hr h hq hp c; omega))
  · by_cases g2 : n < q + p
    · left; (clear a2 a1 e r2 r1 hr h r hq h1 hp c k; omega)
    · by_cases g3 : n < q + 1 + p
      · right; (clear g1 a2 a1 e r2 r1 hr h r hq h1 k; lia)
      · exfalso
        have b1 := mulL (k := k) (by lia) (show 1 ≤ n - p - q by (clear g2 g1 a2 a1 e r2 r1 hr h r hq h1 hp c k; lia))
        have b2 := mulL (k := k) (by lia) (show 1 ≤ n - q by (clear b1 g3 g1 a2 a1 e r2 r1 hr h r hq h1 k; lia))
        exact h (by unfold SS; (clear g3 g2 g1 a2 a1 e r1 hr h hq h1 hp c; omega))
theorem behind {k c : Int} {n p : Int} (hp : 0 < p) (hk : k ≠ 0) (h : ¬ SS (k * (n - p) + c) (k * n + c)) :
    (Int.fdiv (-c) k ≤ n ∧ n < Int.fdiv (-c) k + p) ∨ (Int.fdiv (-c) k + 1 ≤ n ∧ n < Int.fdiv (-c) k + 1 + p) := by
  rcases Int.lt_or_gt_of_ne hk with h1 | h1
  · have e : Int.fdiv (-c) k = Int.fdiv (-(-c)) (-k) := (Int.neg_fdiv_neg (-c) k).symm
    rw [e]
    refine behind_pos hp (by (clear e h hk hp p n c; lia)) fun q => h ?_
    have := q.neg
    rw [show -(-k * (n - p) + -c) = k * (n - p) + c by grind, show -(-k * n + -c) = k * n + c by grind] at this
    exact this
  · exact behind_pos hp h1 h
theorem some0_iff {w : Nat} {t : T} {v : Val} (hw : w < 3) (hd : depth t = 0) (wf : WF t) : some0 w t v = true ↔ ∃ n, Sem t (put v w n) := by
  have unf : some0 w t v = (changes w t v).any fun (q : Int) => (List.range (per t)).any fun (j : Nat) => decide (0 ≤ q + (j : Int)) && so0 t (put v w (q + (j : Int)).toNat) := rfl
  rw [unf]
  constructor
  · intro h
    rw [List.any_eq_true] at h
    obtain ⟨q, _, h⟩ := h
    rw [List.any_eq_true] at h
    obtain ⟨j, _, h⟩ := h
    rw [Bool.and_eq_true] at h
    exact ⟨_, (so0_iff hd).mp h.2⟩
  · intro h
    obtain ⟨n, hn, hl⟩ := least_of h
    have key : ∃ q ∈ changes w t v, q ≤ (n : Int) ∧ (n : Int) < q + (per t : Int) := by
      by_cases g : n < per t
      · exact ⟨0, by simp [changes], by lia, by lia⟩
      · have hm := hl (n - per t) (by have := per_pos t; (clear hl hn h unf wf hd hw v w; omega))
        have : ∃ x ∈ brackets t, x.2.2 = 0 ∧ ¬ SS (dif x (put v w (n - per t))) (dif x (put v w n)) := by
          refine Classical.byContradiction fun no => hm ((sem_congr hd wf (v := put v w (n - per t)) (v' := put v w n) (fun x hx h0 => ?_) (fun x hx h0 => ?_)).mpr hn)
          · exact Classical.byContradiction fun q => no ⟨x, hx, h0, q⟩
          · have e := rest_shift x.1 v hw (n - per t) (per t) x.2.2 (dvd_per hx h0)
            rw [show n - per t + per t = n by (clear h0 hx no hm hn h unf wf hd hw; lia)] at e
            exact e.symm
        obtain ⟨x, hx, h0, hs⟩ := this
        rw [dif_put x v hw, dif_put x v hw, show ((n - per t : Nat) : Int) = (n : Int) - (per t : Int) by (clear hs h0 hx x hm hl hn h unf wf hd hw v w; omega)] at hs
        have hk : kof x w ≠ 0 := fun z => hs (by rw [z]; simp; exact SS.refl _)
        have hb := behind (n := (n : Int)) (p := (per t : Int)) (by have := per_pos t; lia) hk hs
        have mem : ∀ y : Int, y = Int.fdiv (-(constOf x.1 x.2.1 v [w])) (kof x w) ∨ y = Int.fdiv (-(constOf x.1 x.2.1 v [w])) (kof x w) + 1 → y ∈ changes w t v := by
          intro y hy
          unfold changes
          refine List.mem_cons_of_mem _ (List.mem_flatMap.mpr ⟨x, hx, ?_⟩)
          show y ∈ (if x.2.2 ≠ 0 ∨ kof x w = 0 then [] else [Int.fdiv (-(constOf x.1 x.2.1 v [w])) (kof x w), Int.fdiv (-(constOf x.1 x.2.1 v [w])) (kof x w) + 1])
          rw [if_neg (by rintro (z | z); exact z h0; exact hk z)]
          rcases hy with rfl | rfl <;> simp
        rcases hb with hb | hb
        · exact ⟨_, mem _ (.inl rfl), hb.1, hb.2⟩
        · exact ⟨_, mem _ (.inr rfl), hb.1, hb.2⟩
    obtain ⟨q, hq, h1, h2⟩ := key
    rw [List.any_eq_true]
    refine ⟨q, hq, ?_⟩
    rw [List.any_eq_true]
    refine ⟨((n : Int) - q).toNat, List.mem_range.mpr (by (clear hn h unf wf; lia)), ?_⟩
    have e : q + ((((n : Int) - q).toNat : Nat) : Int) = (n : Int) := by (clear h2 hl hn h unf wf hd hw; lia)
    rw [e, Bool.and_eq_true]
    exact ⟨by simp, (so0_iff hd).mpr (by simpa using hn)⟩
theorem all_iff_some (t : T) (v : Val) (w : Nat) : (∀ n, Sem t (put v w n)) ↔ ¬ ∃ n, Sem (.not t) (put v w n) := by
  constructor
  · rintro h ⟨n, hn⟩
    exact hn (h n)
  · intro h n
    exact Classical.byContradiction fun q => h ⟨n, q⟩
theorem so1_iff : ∀ {t : T} {v : Val}, depth t ≤ 1 → WF t → (so1 t v = true ↔ Sem t v) := by
  intro t
  induction t with
  | less a b => intro v _ _; simp [so1, Sem]
  | same a b => intro v _ _; simp [so1, Sem]
  | rest a m r => intro v _ _; simp [so1, Sem]
  | not t ih => intro v hd wf; have := @ih v hd wf; simp only [so1, Sem, ← this]; simp
  | and s t ihs iht =>
    intro v hd wf
    simp only [depth] at hd
    have h1 := @ihs v (by lia) wf.1
    have h2 := @iht v (by (clear h1 wf v iht ihs; lia)) wf.2
    simp only [so1, Sem, ← h1, ← h2]; simp
  | or s t ihs iht =>
    intro v hd wf
    simp only [depth] at hd
    have h1 := @ihs v (by lia) wf.1
    have h2 := @iht v (by lia) wf.2
    simp only [so1, Sem, ← h1, ← h2]; simp
  | then_ s t ihs iht =>
    intro v hd wf
    simp only [depth] at hd
    have h1 := @ihs v (by lia) wf.1
    have h2 := @iht v (by lia) wf.2
    simp only [so1, Sem, ← h1, ← h2]
    cases so1 s v <;> simp
  | all u t ih =>
    intro v hd wf
    simp only [depth] at hd
    have h := some0_iff (w := u) (t := .not t) (v := v) wf.1 (by simp only [depth]; lia) wf.2
    simp only [so1, Sem]
    rw [all_iff_some, ← h]; simp
  | some_ u t ih =>
    intro v hd wf
    simp only [depth] at hd
    have h := some0_iff (w := u) (t := t) (v := v) wf.1 (by lia) wf.2
    simp only [so1, Sem]
    exact h
structure Form where
  kw : Int
  ku : Int
  c : Int
def Form.at (f : Form) (n i : Int) : Int := f.kw * i + (f.ku * n + f.c)
theorem transfer {F : List Form} {R : List (Form × Int)} {L p M : Int} (hL : 0 < L) (hp : 0 < p)
    (hF : ∀ f ∈ F, f.kw ≠ 0 → ∃ s, s ≠ 0 ∧ s * f.kw = L ∧ -M ≤ s * f.c ∧ s * f.c ≤ M) (hF0 : ∀ f ∈ F, f.kw = 0 → -M ≤ f.c ∧ f.c ≤ M)
    (hR : ∀ r ∈ R, r.2 ∣ r.1.kw * p ∧ r.2 ∣ r.1.ku * (L * p)) (hM : 0 ≤ M) {n n' : Int} (hn : 2 * M + L * p < n) (hn' : 2 * M + L * p < n') {e : Int} (he : n' = n + L * p * e) :
    ∀ i : Nat, ∃ i' : Nat, (∀ f ∈ F, SS (f.at n i) (f.at n' i')) ∧ ∀ r ∈ R, r.2 ∣ r.1.at n' i' - r.1.at n i := by
  have hS : 0 < L * p := Int.mul_pos hL hp
  intro i
  induction i using Nat.strongRecOn with
  | ind i ih =>
    have zero : ∀ f ∈ F, f.kw = 0 → ∀ j j' : Int, SS (f.at n j) (f.at n' j') := by
      intro f hf h0 j j'
      have := hF0 f hf h0
      unfold Form.at
      rw [h0]
      simp only [Int.zero_mul, Int.zero_add]
      exact SS.lin (B := M) (by lia) (by lia) this.1 this.2
    by_cases g : (i : Int) < p
    · -- near 0
      refine ⟨i, fun f hf => ?_, fun r hr => ?_⟩
      · by_cases h0 : f.kw = 0
        · exact zero f hf h0 _ _
        · obtain ⟨s, hs, e1, b1, b2⟩ := hF f hf h0
          refine SS.mul hs ?_
          have c1 : s * f.at n i = s * f.ku * n + (L * i + s * f.c) := by unfold Form.at; rw [← e1]; grind
          have c2 : s * f.at n' i = s * f.ku * n' + (L * i + s * f.c) := by unfold Form.at; rw [← e1]; grind
          have d1 : 0 ≤ L * (i : Int) := Int.mul_nonneg (by lia) (by lia)
          have d2 : L * (i : Int) ≤ L * p := Int.mul_le_mul_of_nonneg_left (by (clear d1 c2 c1 b2 b1 e1 hs s h0 hf f zero ih hS he e hn' hn n' n hM hR hF0 hF hp hL M L R F; lia)) (by lia)
          rw [c1, c2]
          exact SS.lin (B := M + L * p) (by (clear d2 d1 c2 c1 b2 b1 e1 hs s h0 hf f g zero ih i hS he e hn' n' hR hF0 hF hp hL R F; omega)) (by lia) (by lia) (by lia)
      · have q : r.1.at n' i - r.1.at n i = r.1.ku * (L * p) * e := by unfold Form.at; rw [he]; grind
        rw [q]
        exact Int.dvd_trans (hR r hr).2 (Int.dvd_mul_right _ _)
    · by_cases g2 : ∀ f ∈ F, SS (f.at n i) (f.at n ((i : Int) - p))
      · -- back by a period
        have ei : (((i : Int) - p).toNat : Int) = (i : Int) - p := by (clear g2 ih hS he e hn' hn hM hR hF0 hF hp M R; lia)
        obtain ⟨i', h1, h2⟩ := ih ((i : Int) - p).toNat (by (clear g2 zero ih hS he e hn' hn n' n hM hR hF0 hF hL M L R F; omega))
        rw [ei] at h1 h2
        refine ⟨i', fun f hf => (g2 f hf).trans (h1 f hf), fun r hr => ?_⟩
        have q : r.1.at n' i' - r.1.at n i = (r.1.at n' i' - r.1.at n ((i : Int) - p)) + -(r.1.kw * p) := by unfold Form.at; grind
        rw [q]
        exact Int.dvd_add (h2 r hr) (Int.dvd_neg.mpr (hR r hr).1)
      · -- behind a change
        have g3 : ∃ f ∈ F, ¬ SS (f.at n i) (f.at n ((i : Int) - p)) := Classical.byContradiction fun no => g2 fun f hf => Classical.byContradiction fun q => no ⟨f, hf, q⟩
        obtain ⟨f0, hf0, hs0⟩ := g3
        have k0 : f0.kw ≠ 0 := fun z => hs0 (SS.of_eq (by unfold Form.at; rw [z]; simp))
        obtain ⟨s0, hs, e0, b1, b2⟩ := hF f0 hf0 k0
        have hG : ¬ SS (s0 * f0.at n i) (s0 * f0.at n ((i : Int) - p)) := fun q => hs0 (SS.mul hs q)
        have eG : s0 * f0.at n ((i : Int) - p) = s0 * f0.at n i - L * p := by unfold Form.at; rw [← e0]; grind
        rw [eG] at hG
        generalize hGG : s0 * f0.at n i = G at hG
        have G0 : 0 ≤ G ∧ G ≤ L * p := by
          unfold SS at hG
          (clear hGG eG b2 b1 e0 hs s0 k0 hs0 hf0 f0 g2 g zero ih i he e hn' hn n' n hM hR hF0 hF hp hL M R F; omega)
        have eL : L * (i : Int) = G - s0 * f0.ku * n - s0 * f0.c := by rw [← hGG, ← e0]; unfold Form.at; grind
        have eL' : L * ((i : Int) - s0 * f0.ku * p * e) = G - s0 * f0.ku * n' - s0 * f0.c := by
          have : L * ((i : Int) - s0 * f0.ku * p * e) = L * (i : Int) - s0 * f0.ku * (L * p * e) := by grind
          rw [this, eL, he]; grind
        have pos : 0 ≤ (i : Int) - s0 * f0.ku * p * e := by
          have ss : SS (L * (i : Int)) (L * ((i : Int) - s0 * f0.ku * p * e)) := by
            rw [eL, eL']
            have c1 : G - s0 * f0.ku * n - s0 * f0.c = (-(s0 * f0.ku)) * n + (G - s0 * f0.c) := by grind
            have c2 : G - s0 * f0.ku * n' - s0 * f0.c = (-(s0 * f0.ku)) * n' + (G - s0 * f0.c) := by grind
            rw [c1, c2]
            exact SS.lin (B := M + L * p) (by (clear c2 c1 eL' eL G0 hG hGG G eG b2 b1 e0 hs s0 k0 hs0 hf0 f0 g2 g zero ih i hS he e hn' n' hR hF0 hF hp hL R F; lia)) (by (clear c2 c1 eL' eL G0 hG hGG G eG b2 b1 e0 hs s0 k0 hs0 hf0 f0 g2 g zero ih i hS he e hn n hR hF0 hF hp hL R F; lia)) (by (clear c2 c1 eL' eL hGG eG e0 hs k0 hs0 hf0 g2 g zero ih i he e hn' n' hM hR hF0 hF hp R F; lia)) (by (clear c2 c1 eL' eL hG hGG eG b2 e0 hs k0 hs0 hf0 g2 g zero ih i he e hn' hn n' n hR hF0 hF hp hL R F; omega))
          have ss2 := SS.mul (by lia : L ≠ 0) ss
          unfold SS at ss2
          (clear eL' eL G0 hG hGG G eG b2 b1 e0 hs k0 hs0 hf0 g2 g zero ih hS he hn' hn n' n hM hR hF0 hF hp hL M R F; lia)
        refine ⟨((i : Int) - s0 * f0.ku * p * e).toNat, ?_, ?_⟩
        · intro f hf
          by_cases h0 : f.kw = 0
          · exact zero f hf h0 _ _
          · obtain ⟨s, hs', e1, c1, c2⟩ := hF f hf h0
            refine SS.mul hs' ?_
            rw [show ((((i : Int) - s0 * f0.ku * p * e).toNat : Nat) : Int) = (i : Int) - s0 * f0.ku * p * e by (clear c2 c1 e1 hs' s h0 hf f eL' eL G0 hG hGG G eG b2 b1 e0 hs k0 hs0 hf0 g2 g zero ih hS he hn' hn n' n hM hR hF0 hF hp hL M L R F; omega)]
            have q1 : s * f.at n i = L * (i : Int) + s * f.ku * n + s * f.c := by unfold Form.at; rw [← e1]; grind
            have q2 : s * f.at n' ((i : Int) - s0 * f0.ku * p * e) = L * ((i : Int) - s0 * f0.ku * p * e) + s * f.ku * n' + s * f.c := by unfold Form.at; rw [← e1]; grind
            rw [q1, q2, eL, eL']
            have r1 : G - s0 * f0.ku * n - s0 * f0.c + s * f.ku * n + s * f.c = (s * f.ku - s0 * f0.ku) * n + (G - s0 * f0.c + s * f.c) := by grind
            have r2 : G - s0 * f0.ku * n' - s0 * f0.c + s * f.ku * n' + s * f.c = (s * f.ku - s0 * f0.ku) * n' + (G - s0 * f0.c + s * f.c) := by grind
            rw [r1, r2]
            exact SS.lin (B := 2 * M + L * p) (by omega) (by omega) (by (clear r2 r1 q2 q1 c2 hs' h0 hf pos eL' eL hGG eG e0 hs k0 hs0 hf0 g2 g zero ih i he e hn' n' hM hR hF0 hF hp R F; lia)) (by (clear r2 r1 q2 q1 e1 hs' h0 hf pos eL' eL hG hGG eG e0 hs k0 hs0 hf0 g2 g zero ih i hS he e hn' hn n' n hR hF0 hF hp hL R F; omega))
        · intro r hr
          rw [show ((((i : Int) - s0 * f0.ku * p * e).toNat : Nat) : Int) = (i : Int) - s0 * f0.ku * p * e by (clear hr r eL' eL G0 hG hGG G eG b2 b1 e0 hs k0 hs0 hf0 g zero ih hS he hn' hn n' hM hR hF0 hF hp hL M L R; lia)]
          have q : r.1.at n' ((i : Int) - s0 * f0.ku * p * e) - r.1.at n i = r.1.ku * (L * p) * e + (r.1.kw * p) * (-(s0 * f0.ku * e)) := by unfold Form.at; rw [he]; grind
          rw [q]
          exact Int.dvd_add (Int.dvd_trans (hR r hr).2 (Int.dvd_mul_right _ _)) (Int.dvd_trans (hR r hr).1 (Int.dvd_mul_right _ _))
end WS
end
section
open Sy15 Sy15Neutral
namespace WS
theorem le_fold_max : ∀ (l : List Nat) (a : Nat), a ≤ l.foldl max a ∧ ∀ x ∈ l, x ≤ l.foldl max a
  | [], a => ⟨Nat.le_refl _, by simp⟩
  | y :: l, a => by
    have ih := le_fold_max l (max a y)
    rw [List.foldl_cons]
    refine ⟨by lia, fun x hx => ?_⟩
    rcases List.mem_cons.mp hx with rfl | hx
    · lia
    · exact ih.2 x hx
theorem rest_zero : ∀ {t : T} {x : Br}, x ∈ brackets t → x.2.2 ≠ 0 → x.2.1 = ⟨0, 0, 0, 0⟩ := by
  intro t
  induction t with
  | less a b => intro x hx h; simp [brackets] at hx; subst hx; exact absurd rfl h
  | same a b => intro x hx h; simp [brackets] at hx; subst hx; exact absurd rfl h
  | rest a m r => intro x hx h; simp [brackets] at hx; subst hx; rfl
  | not t ih => intro x hx h; exact ih hx h
  | and s t ihs iht => intro x hx h; simp only [brackets, List.mem_append] at hx; exact hx.elim (fun q => ihs q h) (fun q => iht q h)
  | or s t ihs iht => intro x hx h; simp only [brackets, List.mem_append] at hx; exact hx.elim (fun q => ihs q h) (fun q => iht q h)
  | then_ s t ihs iht => intro x hx h; simp only [brackets, List.mem_append] at hx; exact hx.elim (fun q => ihs q h) (fun q => iht q h)
  | all u t ih => intro x hx h; exact ih hx h
  | some_ u t ih => intro x hx h; exact ih hx h
def tms (w : Nat) (x : Br) : Nat := (kof x w).natAbs
def allw (w : Nat) (l : List Br) : Nat := lcms ((l.map (tms w)).filter fun (k : Nat) => k != 0)
def scl (w : Nat) (l : List Br) (x : Br) : Nat := if tms w x = 0 then 1 else allw w l / tms w x
def stp (w : Nat) (l : List Br) : Nat := lcms (allw w l :: ((l.filter fun (x : Br) => x.2.2 != 0).map fun (x : Br) => scl w l x * x.2.2))
def mst (u w : Nat) (v : Val) (l : List Br) : Nat := ((l.filter fun (x : Br) => x.2.2 == 0).map fun (x : Br) => scl w l x * (constOf x.1 x.2.1 v [u, w]).natAbs).foldl max 0
theorem farIn_eq (u w : Nat) (v : Val) (t : T) : farIn u w v t = if u = w then (0, 1) else (2 * mst u w v (brackets t) + stp w (brackets t) + 2, stp w (brackets t)) := rfl
section
variable {w : Nat} {l : List Br}
theorem allw_pos : 0 < allw w l := lcms_pos fun x hx => by simp at hx; lia
theorem tms_dvd {x : Br} (hx : x ∈ l) (h : tms w x ≠ 0) : tms w x ∣ allw w l := dvd_lcms (by
  rw [List.mem_filter]
  exact ⟨List.mem_map.mpr ⟨x, hx, rfl⟩, by simpa using h⟩)
theorem scl_mul {x : Br} (hx : x ∈ l) (h : tms w x ≠ 0) : scl w l x * tms w x = allw w l := by
  unfold scl
  rw [if_neg h]
  exact Nat.div_mul_cancel (tms_dvd hx h)
theorem scl_pos {x : Br} (hx : x ∈ l) : 0 < scl w l x := by
  by_cases h : tms w x = 0
  · unfold scl; rw [if_pos h]; decide
  · have e := scl_mul (w := w) hx h
    have q := allw_pos (w := w) (l := l)
    rcases Nat.eq_zero_or_pos (scl w l x) with z | z
    · rw [z, Nat.zero_mul] at e; lia
    · exact z
theorem stp_pos : 0 < stp w l := lcms_pos fun x hx => by
  rcases List.mem_cons.mp hx with rfl | hx
  · exact allw_pos
  · obtain ⟨y, hy, rfl⟩ := List.mem_map.mp hx
    rw [List.mem_filter] at hy
    exact Nat.mul_pos (scl_pos hy.1) (by have := hy.2; simp at this; lia)
theorem allw_dvd : allw w l ∣ stp w l := dvd_lcms (by simp)
theorem rest_dvd {x : Br} (hx : x ∈ l) (h : x.2.2 ≠ 0) : scl w l x * x.2.2 ∣ stp w l := dvd_lcms (List.mem_cons_of_mem _ (List.mem_map.mpr ⟨x, List.mem_filter.mpr ⟨hx, by simpa using h⟩, rfl⟩))
theorem le_mst {u : Nat} {v : Val} {x : Br} (hx : x ∈ l) (h : x.2.2 = 0) : scl w l x * (constOf x.1 x.2.1 v [u, w]).natAbs ≤ mst u w v l :=
  (le_fold_max _ 0).2 _ (List.mem_map.mpr ⟨x, List.mem_filter.mpr ⟨hx, by simpa using h⟩, rfl⟩)
end
theorem some_far {u w : Nat} {v : Val} {t : T} (hu : u < 3) (hw : w < 3) (huw : u ≠ w) (hd : depth t = 0) (wf : WF t) {n n' : Nat} (hn : 2 * mst u w v (brackets t) + stp w (brackets t) < n)
    (hn' : 2 * mst u w v (brackets t) + stp w (brackets t) < n') {e : Int} (he : (n' : Int) = n + (stp w (brackets t) : Int) * e) (h : ∃ i, Sem t (put (put v u n) w i)) : ∃ i, Sem t (put (put v u n') w i) := by
  obtain ⟨i, hi⟩ := h
  generalize hl : brackets t = l at *
  obtain ⟨p, hp⟩ := allw_dvd (w := w) (l := l)
  have pp : 0 < p := by
    have := stp_pos (w := w) (l := l)
    rcases Nat.eq_zero_or_pos p with z | z
    · rw [z, Nat.mul_zero] at hp; lia
    · exact z
  have frm : ∀ (x : Br) (k j : Nat), dif x (put (put v u k) w j) = (Form.mk (kof x w) (kof x u) (constOf x.1 x.2.1 v [u, w])).at k j := by
    intro x k j
    rw [dif_put x _ hw, const_put x v hu hw huw]
    rfl
  have hS : ((allw w l : Int) * (p : Int)) = (stp w l : Int) := by rw [hp]; simp
  obtain ⟨i', h1, h2⟩ := transfer
    (F := (l.filter fun (x : Br) => x.2.2 == 0).map fun x => Form.mk (kof x w) (kof x u) (constOf x.1 x.2.1 v [u, w]))
    (R := (l.filter fun (x : Br) => x.2.2 != 0).map fun x => (Form.mk (kof x w) (kof x u) (constOf x.1 x.2.1 v [u, w]), (x.2.2 : Int)))
    (L := (allw w l : Int)) (p := (p : Int)) (M := (mst u w v l : Int)) (by have := allw_pos (w := w) (l := l); lia) (by lia)
    (by
      intro f hf h0
      obtain ⟨x, hx, rfl⟩ := List.mem_map.mp hf
      rw [List.mem_filter] at hx
      obtain ⟨hx, hz⟩ := hx
      have ht : tms w x ≠ 0 := fun z => h0 (Int.natAbs_eq_zero.mp z)
      have sm := scl_mul (w := w) hx ht
      have lm := le_mst (u := u) (v := v) (w := w) hx (by simpa using hz)
      have sp := scl_pos (w := w) hx
      show ∃ s : Int, s ≠ 0 ∧ s * kof x w = _ ∧ _ ≤ s * constOf x.1 x.2.1 v [u, w] ∧ s * constOf x.1 x.2.1 v [u, w] ≤ _
      have bnd : ∀ c : Int, -((scl w l x * c.natAbs : Nat) : Int) ≤ (scl w l x : Int) * c ∧ (scl w l x : Int) * c ≤ ((scl w l x * c.natAbs : Nat) : Int) := by
        intro c
        have q : ((scl w l x : Int) * c).natAbs = scl w l x * c.natAbs := by rw [Int.natAbs_mul]; simp
        (clear sp lm sm ht hz hx h0 hf hS frm pp hp p he hn' hn hl hi i e n' n wf hd huw hw hu t v u; omega)
      have b := bnd (constOf x.1 x.2.1 v [u, w])
      rcases Int.natAbs_eq (kof x w) with q | q
      · refine ⟨(scl w l x : Int), by lia, ?_, by lia, by lia⟩
        rw [q, ← sm]; simp [tms]
      · refine ⟨-(scl w l x : Int), by lia, ?_, ?_, ?_⟩
        · rw [q, ← sm, Int.neg_mul_neg]; simp [tms]
        · rw [Int.neg_mul]; lia
        · rw [Int.neg_mul]; lia)
    (by
      intro f hf h0
      obtain ⟨x, hx, rfl⟩ := List.mem_map.mp hf
      rw [List.mem_filter] at hx
      obtain ⟨hx, hz⟩ := hx
      have lm := le_mst (u := u) (v := v) (w := w) hx (by simpa using hz)
      have h0' : kof x w = 0 := h0
      have ht : tms w x = 0 := by unfold tms; rw [h0']; rfl
      unfold scl at lm
      rw [if_pos ht, Nat.one_mul] at lm
      show _ ≤ constOf x.1 x.2.1 v [u, w] ∧ constOf x.1 x.2.1 v [u, w] ≤ _
      (clear ht h0' hz hx h0 hf hS frm pp hp p he hn' hn hl hi i e n' n wf hd huw hw hu t; omega))
    (by
      intro r hr
      obtain ⟨x, hx, rfl⟩ := List.mem_map.mp hr
      rw [List.mem_filter] at hx
      obtain ⟨hx, hz⟩ := hx
      have hz' : x.2.2 ≠ 0 := by simpa using hz
      have rd := rest_dvd (w := w) hx hz'
      show (x.2.2 : Int) ∣ kof x w * (p : Int) ∧ (x.2.2 : Int) ∣ kof x u * ((allw w l : Int) * (p : Int))
      constructor
      · by_cases ht : tms w x = 0
        · rw [Int.natAbs_eq_zero.mp ht]; simp
        · have sm := scl_mul (w := w) hx ht
          have sp := scl_pos (w := w) hx
          obtain ⟨q, hq⟩ := rd
          have : x.2.2 * q = tms w x * p := by
            have e1 : scl w l x * (x.2.2 * q) = scl w l x * (tms w x * p) := by
              rw [← Nat.mul_assoc, ← hq, hp, ← sm, Nat.mul_assoc]
            exact Nat.eq_of_mul_eq_mul_left sp e1
          have d : (x.2.2 : Int) ∣ ((tms w x * p : Nat) : Int) := Int.natCast_dvd_natCast.mpr ⟨q, this.symm⟩
          rcases Int.natAbs_eq (kof x w) with z | z
          · rw [z]
            simpa [tms] using d
          · rw [z, Int.neg_mul]
            exact Int.dvd_neg.mpr (by simpa [tms] using d)
      · rw [hS]
        have d : x.2.2 ∣ stp w l := Nat.dvd_trans (Nat.dvd_mul_left _ _) rd
        exact Int.dvd_trans (Int.natCast_dvd_natCast.mpr d) (Int.dvd_mul_left _ _))
    (by lia) (n := (n : Int)) (n' := (n' : Int)) (by rw [hS]; lia) (by rw [hS]; lia) (e := e) (by rw [hS]; exact he) i
  refine ⟨i', (sem_congr hd wf (fun x hx h0 => ?_) (fun x hx h0 => ?_)).mp hi⟩
  · rw [hl] at hx
    rw [frm, frm]
    exact h1 _ (List.mem_map.mpr ⟨x, List.mem_filter.mpr ⟨hx, by simpa using h0⟩, rfl⟩)
  · have z := rest_zero hx h0
    rw [hl] at hx
    have q := h2 _ (List.mem_map.mpr ⟨x, List.mem_filter.mpr ⟨hx, by simpa using h0⟩, rfl⟩)
    have dz : ∀ v' : Val, dif x v' = (x.1.of_ v' : Int) := by
      intro v'
      unfold dif
      rw [z]
      simp [Sum.of_]
    have q' : (x.2.2 : Int) ∣ (x.1.of_ (put (put v u n') w i') : Int) - (x.1.of_ (put (put v u n) w i) : Int) := by
      rw [← dz, ← dz, frm, frm]
      exact q
    have q3 := Int.emod_emod_of_dvd
    have := Int.emod_eq_emod_iff_emod_sub_eq_zero.mpr (Int.emod_eq_zero_of_dvd q')
    lia
def Rnd (P : Nat → Prop) (a s : Nat) : Prop := 0 < s ∧ ∀ n, a ≤ n → (P n ↔ P (n + s))
theorem Rnd.times {P : Nat → Prop} {a s : Nat} (h : Rnd P a s) (k : Nat) : ∀ n, a ≤ n → (P n ↔ P (n + s * k)) := by
  induction k with
  | zero => intro n _; simp
  | succ k ih =>
    intro n hn
    rw [ih n hn, h.2 (n + s * k) (by (clear ih h P; lia)), Nat.mul_succ, Nat.add_assoc]
theorem Rnd.both {P Q : Nat → Prop} {x y : Nat × Nat} (h : Rnd P x.1 x.2) (g : Rnd Q y.1 y.2) : Rnd P (both x y).1 (both x y).2 ∧ Rnd Q (both x y).1 (both x y).2 := by
  unfold Sy15Neutral.both
  have pos : 0 < Nat.lcm x.2 y.2 := Nat.lcm_pos h.1 g.1
  refine ⟨⟨pos, fun n hn => ?_⟩, ⟨pos, fun n hn => ?_⟩⟩
  · obtain ⟨k, hk⟩ := Nat.dvd_lcm_left x.2 y.2
    have := h.times k n (by simp at hn; lia)
    simp only [hk]; exact this
  · obtain ⟨k, hk⟩ := Nat.dvd_lcm_right x.2 y.2
    have := g.times k n (by simp at hn; lia)
    simp only [hk]; exact this
theorem Rnd.some {P : Nat → Prop} {a s : Nat} (h : Rnd P a s) (g : ∃ n, P n) : ∃ n, n < a + s + 1 ∧ P n := by
  obtain ⟨n, hn, hl⟩ := least_of g
  refine ⟨n, ?_, hn⟩
  refine Classical.byContradiction fun q => ?_
  have e := h.2 (n - s) (by lia)
  rw [show n - s + s = n by (clear e hn g h; lia)] at e
  exact hl (n - s) (by have := h.1; lia) (e.mpr hn)
theorem far_ok {u : Nat} {v : Val} (hu : u < 3) : ∀ {t : T}, depth t ≤ 1 → WF t → Rnd (fun n => Sem t (put v u n)) (far u v t).1 (far u v t).2 := by
  have cmp : ∀ (a b : Sum) (n : Nat), (constOf a b v [u]).natAbs + 2 ≤ n → SS (dif (a, b, 0) (put v u n)) (dif (a, b, 0) (put v u (n + 1))) := by
    intro a b n hn
    rw [dif_put _ v hu, dif_put _ v hu]
    exact SS.lin (B := ((constOf a b v [u]).natAbs : Int)) (by lia) (by lia) (by show _ ≤ constOf a b v [u]; lia) (by show constOf a b v [u] ≤ _; lia)
  have sm : ∀ {w : Nat} {t : T}, w < 3 → depth t = 0 → WF t → Rnd (fun n => ∃ i, Sem t (put (put v u n) w i)) (farIn u w v t).1 (farIn u w v t).2 := by
    intro w t hw hd wf
    rw [farIn_eq]
    by_cases huw : u = w
    · subst huw
      rw [if_pos rfl]
      refine ⟨by decide, fun n _ => ?_⟩
      simp only [put_put]
    · rw [if_neg huw]
      refine ⟨stp_pos, fun n hn => ⟨fun h => ?_, fun h => ?_⟩⟩
      · exact some_far hu hw huw hd wf (by simp at hn; lia) (by simp at hn; simp; lia) (e := 1) (by simp) h
      · exact some_far hu hw huw hd wf (by simp at hn; simp; lia) (by simp at hn; lia) (e := -1) (by simp; lia) h
  intro t
  induction t with
  | less a b =>
    intro _ _
    refine ⟨by simp [far], fun n hn => ?_⟩
    have h := cmp a b n hn
    simp only [Sem, far, SS, dif] at *
    lia
  | same a b =>
    intro _ _
    refine ⟨by simp [far], fun n hn => ?_⟩
    have h := cmp a b n hn
    simp only [Sem, far, SS, dif] at *
    lia
  | rest a m r =>
    intro _ wf
    refine ⟨by simp only [far, WF] at *; lia, fun n hn => ?_⟩
    simp only [Sem, far]
    rw [rest_shift a v hu n m m (Nat.dvd_refl _)]
  | not t ih =>
    intro hd wf
    have h := ih hd wf
    exact ⟨h.1, fun n hn => not_congr (h.2 n hn)⟩
  | and s t ihs iht =>
    intro hd wf
    simp only [depth] at hd
    have h := Rnd.both (ihs (by lia) wf.1) (iht (by lia) wf.2)
    exact ⟨h.1.1, fun n hn => and_congr (h.1.2 n hn) (h.2.2 n hn)⟩
  | or s t ihs iht =>
    intro hd wf
    simp only [depth] at hd
    have h := Rnd.both (ihs (by lia) wf.1) (iht (by lia) wf.2)
    exact ⟨h.1.1, fun n hn => or_congr (h.1.2 n hn) (h.2.2 n hn)⟩
  | then_ s t ihs iht =>
    intro hd wf
    simp only [depth] at hd
    have h := Rnd.both (ihs (by lia) wf.1) (iht (by lia) wf.2)
    exact ⟨h.1.1, fun n hn => imp_congr (h.1.2 n hn) (h.2.2 n hn)⟩
  | all w t ih =>
    intro hd wf
    simp only [depth] at hd
    have h := sm (w := w) (t := .not t) wf.1 (by simp only [depth]; lia) wf.2
    refine ⟨h.1, fun n hn => ?_⟩
    have g := h.2 n hn
    simp only [Sem] at *
    have e1 := all_iff_some t (put v u n) w
    have e2 := all_iff_some t (put v u (n + (far u v (.all w t)).2)) w
    simp only [Sem] at e1 e2
    rw [e1, e2]
    exact not_congr g
  | some_ w t ih =>
    intro hd wf
    simp only [depth] at hd
    exact sm (w := w) (t := t) wf.1 (by lia) wf.2
theorem enough_some {u : Nat} {v : Val} {t : T} (hu : u < 3) (hd : depth t ≤ 1) (wf : WF t) : (∃ n, n < enough u v t ∧ Sem t (put v u n)) ↔ ∃ n, Sem t (put v u n) :=
  ⟨fun ⟨n, _, h⟩ => ⟨n, h⟩, fun h => (far_ok hu hd wf).some h⟩
theorem enough_all {u : Nat} {v : Val} {t : T} (hu : u < 3) (hd : depth t ≤ 1) (wf : WF t) : (∀ n, n < enough u v t → Sem t (put v u n)) ↔ ∀ n, Sem t (put v u n) := by
  constructor
  · intro h n
    refine Classical.byContradiction fun q => ?_
    have f := far_ok (v := v) hu hd wf
    have f' : Rnd (fun n => ¬ Sem t (put v u n)) (far u v t).1 (far u v t).2 := ⟨f.1, fun n hn => not_congr (f.2 n hn)⟩
    obtain ⟨m, hm, hs⟩ := f'.some ⟨n, q⟩
    exact hs (h m hm)
  · exact fun h n _ => h n
theorem so2_iff : ∀ {t : T} {v : Val}, depth t ≤ 2 → WF t → (so2 t v = true ↔ Sem t v) := by
  intro t
  induction t with
  | less a b => intro v _ _; simp [so2, Sem]
  | same a b => intro v _ _; simp [so2, Sem]
  | rest a m r => intro v _ _; simp [so2, Sem]
  | not t ih => intro v hd wf; have := @ih v hd wf; simp only [so2, Sem, ← this]; simp
  | and s t ihs iht =>
    intro v hd wf
    simp only [depth] at hd
    have h1 := @ihs v (by lia) wf.1
    have h2 := @iht v (by (clear h1 wf v iht ihs; lia)) wf.2
    simp only [so2, Sem, ← h1, ← h2]; simp
  | or s t ihs iht =>
    intro v hd wf
    simp only [depth] at hd
    have h1 := @ihs v (by lia) wf.1
    have h2 := @iht v (by lia) wf.2
    simp only [so2, Sem, ← h1, ← h2]; simp
  | then_ s t ihs iht =>
    intro v hd wf
    simp only [depth] at hd
    have h1 := @ihs v (by lia) wf.1
    have h2 := @iht v (by lia) wf.2
    simp only [so2, Sem, ← h1, ← h2]
    cases so2 s v <;> simp
  | all u t ih =>
    intro v hd wf
    simp only [depth] at hd
    simp only [so2, Sem]
    by_cases h0 : depth t = 0
    · rw [if_pos h0]
      have h := some0_iff (w := u) (t := .not t) (v := v) wf.1 h0 wf.2
      rw [all_iff_some, ← h]; simp
    · rw [if_neg h0, List.all_eq_true, ← enough_all wf.1 (by (clear h0 wf v ih u; lia)) wf.2]
      simp only [List.mem_range]
      exact forall_congr' fun n => imp_congr Iff.rfl (so1_iff (by lia) wf.2)
  | some_ u t ih =>
    intro v hd wf
    simp only [depth] at hd
    simp only [so2, Sem]
    by_cases h0 : depth t = 0
    · rw [if_pos h0]
      exact some0_iff (w := u) (t := t) (v := v) wf.1 h0 wf.2
    · rw [if_neg h0, List.any_eq_true, ← enough_some wf.1 (by lia) wf.2]
      simp only [List.mem_range]
      exact exists_congr fun n => and_congr Iff.rfl (so1_iff (by lia) wf.2)
end WS
end
section
open Sy15 Sy15Neutral
namespace WS
structure V3 where
  x : Int
  y : Int
  z : Int
  deriving DecidableEq
namespace V3
def get (s : V3) (k : Nat) : Int := if k = 0 then s.x else if k = 1 then s.y else s.z
def dot (s : V3) (v : Val) : Int := s.x * (v 0 : Int) + s.y * (v 1 : Int) + s.z * (v 2 : Int)
def neg (s : V3) : V3 := ⟨-s.x, -s.y, -s.z⟩
def unit (u : Nat) : V3 := ⟨if 0 = u then 1 else 0, if 1 = u then 1 else 0, if 2 = u then 1 else 0⟩
def comb (p q : Int) (s t : V3) : V3 := ⟨p * s.x - q * t.x, p * s.y - q * t.y, p * s.z - q * t.z⟩
def gcd (s : V3) : Nat := Nat.gcd (Nat.gcd s.x.natAbs s.y.natAbs) s.z.natAbs
def div (s : V3) (g : Int) : V3 := ⟨s.x / g, s.y / g, s.z / g⟩
def isZ (s : V3) : Bool := decide (s.x = 0) && (decide (s.y = 0) && decide (s.z = 0))
theorem dot_put (s : V3) (v : Val) {u : Nat} (hu : u < 3) (n : Nat) : s.dot (put v u n) = s.get u * (n : Int) + s.dot (put v u 0) := by
  rcases lt3 hu with rfl | rfl | rfl <;> simp [dot, get, put] <;> grind
theorem dot_neg (s : V3) (v : Val) : s.neg.dot v = -(s.dot v) := by simp only [dot, neg]; grind
theorem dot_comb (p q : Int) (s t : V3) (v : Val) : (comb p q s t).dot v = p * s.dot v - q * t.dot v := by simp only [dot, comb]; grind
theorem get_comb (p q : Int) (s t : V3) (u : Nat) : (comb p q s t).get u = p * s.get u - q * t.get u := by
  unfold get comb
  split
  · rfl
  · split <;> rfl
theorem get_neg (s : V3) (u : Nat) : s.neg.get u = -(s.get u) := by
  unfold get neg
  split
  · rfl
  · split <;> rfl
theorem dot_unit (v : Val) {u : Nat} (hu : u < 3) : (unit u).dot v = (v u : Int) := by
  rcases lt3 hu with rfl | rfl | rfl <;> simp [dot, unit]
theorem get_unit {u : Nat} (hu : u < 3) : (unit u).get u = 1 := by
  rcases lt3 hu with rfl | rfl | rfl <;> simp [get, unit]
theorem dot_isZ {s : V3} (h : s.isZ = true) (v : Val) : s.dot v = 0 := by
  simp [isZ] at h
  obtain ⟨h1, h2, h3⟩ := h
  simp [dot, h1, h2, h3]
theorem dot_without {s : V3} {u : Nat} (hu : u < 3) (h : s.get u = 0) (v : Val) (n : Nat) : s.dot (put v u n) = s.dot v := by
  have e := dot_put s v hu n
  have e2 := dot_put s v hu (v u)
  have : put v u (v u) = v := by funext k; unfold put; split <;> simp_all
  rw [this] at e2
  rw [e, e2, h]; simp
theorem gcd_dvd (s : V3) : (s.gcd : Int) ∣ s.x ∧ (s.gcd : Int) ∣ s.y ∧ (s.gcd : Int) ∣ s.z := by
  have h1 : s.gcd ∣ Nat.gcd s.x.natAbs s.y.natAbs := Nat.gcd_dvd_left _ _
  have h2 : s.gcd ∣ s.z.natAbs := Nat.gcd_dvd_right _ _
  exact ⟨Int.ofNat_dvd_left.mpr (Nat.dvd_trans h1 (Nat.gcd_dvd_left _ _)), Int.ofNat_dvd_left.mpr (Nat.dvd_trans h1 (Nat.gcd_dvd_right _ _)), Int.ofNat_dvd_left.mpr h2⟩
theorem gcd_pos {s : V3} (h : s.isZ = false) : 0 < s.gcd := by
  rcases Nat.eq_zero_or_pos s.gcd with z | z
  · exfalso
    unfold gcd at z
    have h1 := Nat.eq_zero_of_gcd_eq_zero_left z
    have h2 := Nat.eq_zero_of_gcd_eq_zero_right z
    have h3 := Nat.eq_zero_of_gcd_eq_zero_left h1
    have h4 := Nat.eq_zero_of_gcd_eq_zero_right h1
    have : s.isZ = true := by simp [isZ]; (clear z h; lia)
    rw [this] at h; cases h
  · exact z
theorem dot_div (s : V3) (v : Val) : s.dot v = (s.gcd : Int) * (s.div s.gcd).dot v := by
  obtain ⟨h1, h2, h3⟩ := s.gcd_dvd
  have e1 := Int.mul_ediv_cancel' h1
  have e2 := Int.mul_ediv_cancel' h2
  have e3 := Int.mul_ediv_cancel' h3
  simp only [dot, div]
  grind
end V3
structure Band where
  s : V3
  lo : Int
  hi : Int
abbrev Ol := List Band × Nat
def Agree (o : Ol) (v v' : Val) : Prop := (∀ b ∈ o.1, ∀ c, b.lo ≤ c → c ≤ b.hi → SS (b.s.dot v + c) (b.s.dot v' + c)) ∧ ∀ k, k < 3 → v k % o.2 = v' k % o.2
def rising (u : Nat) (b : Band) : Band := if 0 < b.s.get u then b else ⟨b.s.neg, -b.hi, -b.lo⟩
def turning (u : Nat) (bs : List Band) : List Band := (bs.filter fun b => decide (b.s.get u ≠ 0)).map (rising u) ++ [⟨V3.unit u, 0, 0⟩]
def scaleOf (u : Nat) (ts : List Band) : Nat := ts.foldl (fun k b => Nat.lcm k (b.s.get u).toNat) 1
def putIn (u : Nat) (scale per : Nat) (st b : Band) : Band :=
  let slope := b.s.get u
  let times := slope * ((scale : Int) / st.s.get u)
  ⟨V3.comb scale times b.s st.s, scale * b.lo - times * st.hi, scale * b.hi - times * st.lo + slope * per⟩
def lowest (b : Band) : Band := ⟨b.s.div b.s.gcd, b.lo / b.s.gcd, -((-b.hi) / b.s.gcd)⟩
def without (u : Nat) (o : Ol) : Ol :=
  let ts := turning u o.1
  let sc := scaleOf u ts
  let per := sc * o.2
  ((((o.1.filter fun b => decide (b.s.get u = 0)) ++ ts.flatMap fun st => ts.map fun b => putIn u sc per st b).filter fun b => !b.s.isZ).map lowest, per)
theorem scale_dvd {u : Nat} : ∀ (ts : List Band) (a : Nat), a ∣ ts.foldl (fun k b => Nat.lcm k (b.s.get u).toNat) a ∧ ∀ b ∈ ts, (b.s.get u).toNat ∣ ts.foldl (fun k b => Nat.lcm k (b.s.get u).toNat) a
  | [], a => ⟨Nat.dvd_refl _, by simp⟩
  | y :: l, a => by
    have ih := scale_dvd (u := u) l (Nat.lcm a (y.s.get u).toNat)
    rw [List.foldl_cons]
    refine ⟨Nat.dvd_trans (Nat.dvd_lcm_left _ _) ih.1, fun x hx => ?_⟩
    rcases List.mem_cons.mp hx with rfl | hx
    · exact Nat.dvd_trans (Nat.dvd_lcm_right _ _) ih.1
    · exact ih.2 x hx
theorem scale_pos {u : Nat} : ∀ (ts : List Band) (a : Nat), 0 < a → (∀ b ∈ ts, 0 < b.s.get u) → 0 < ts.foldl (fun k b => Nat.lcm k (b.s.get u).toNat) a
  | [], _, h, _ => h
  | y :: l, a, h, hl => by
    rw [List.foldl_cons]
    exact scale_pos l _ (Nat.lcm_pos h (by have := hl y (by simp); lia)) fun x hx => hl x (by simp [hx])
theorem rising_pos {u : Nat} {b : Band} (h : b.s.get u ≠ 0) : 0 < (rising u b).s.get u := by
  unfold rising
  split
  · assumption
  · show 0 < b.s.neg.get u
    rw [V3.get_neg]; lia
theorem turning_pos {u : Nat} (hu : u < 3) {bs : List Band} : ∀ b ∈ turning u bs, 0 < b.s.get u := by
  intro b hb
  unfold turning at hb
  rcases List.mem_append.mp hb with h | h
  · obtain ⟨x, hx, rfl⟩ := List.mem_map.mp h
    rw [List.mem_filter] at hx
    exact rising_pos (by simpa using hx.2)
  · simp at h
    subst h
    show 0 < (V3.unit u).get u
    rw [V3.get_unit hu]; decide
theorem unit_mem (u : Nat) (bs : List Band) : (⟨V3.unit u, 0, 0⟩ : Band) ∈ turning u bs := by unfold turning; simp
theorem rising_mem {u : Nat} {bs : List Band} {b : Band} (hb : b ∈ bs) (h : b.s.get u ≠ 0) : rising u b ∈ turning u bs := by
  unfold turning
  exact List.mem_append_left _ (List.mem_map.mpr ⟨b, List.mem_filter.mpr ⟨hb, by simpa using h⟩, rfl⟩)
theorem rising_ss {u : Nat} {b : Band} {v v' : Val} (h : ∀ c, (rising u b).lo ≤ c → c ≤ (rising u b).hi → SS ((rising u b).s.dot v + c) ((rising u b).s.dot v' + c)) :
    ∀ c, b.lo ≤ c → c ≤ b.hi → SS (b.s.dot v + c) (b.s.dot v' + c) := by
  intro c h1 h2
  unfold rising at h
  split at h
  · exact h c h1 h2
  · have q := (h (-c) (by show -b.hi ≤ -c; (clear h h1 v' v; lia)) (by show -c ≤ -b.lo; lia)).neg
    rw [V3.dot_neg, V3.dot_neg] at q
    rw [show -(-(b.s.dot v) + -c) = b.s.dot v + c by lia, show -(-(b.s.dot v') + -c) = b.s.dot v' + c by lia] at q
    exact q
theorem lowest_ss {b : Band} (hz : b.s.isZ = false) {v v' : Val} (h : ∀ c, (lowest b).lo ≤ c → c ≤ (lowest b).hi → SS ((lowest b).s.dot v + c) ((lowest b).s.dot v' + c)) :
    ∀ c, b.lo ≤ c → c ≤ b.hi → SS (b.s.dot v + c) (b.s.dot v' + c) := by
  intro c h1 h2
  have gp := V3.gcd_pos hz
  have e1 := V3.dot_div b.s v
  have e2 := V3.dot_div b.s v'
  generalize hm : (b.s.div b.s.gcd).dot v = m at *
  generalize hm' : (b.s.div b.s.gcd).dot v' = m' at *
  have gq : (0 : Int) < (b.s.gcd : Int) := by lia
  have l1 : b.lo / (b.s.gcd : Int) ≤ c / (b.s.gcd : Int) := Int.ediv_le_ediv gq h1
  have l2 : c / (b.s.gcd : Int) ≤ -((-b.hi) / (b.s.gcd : Int)) := by
    have q1 := Int.mul_ediv_add_emod c (b.s.gcd : Int)
    have q2 := Int.mul_ediv_add_emod (-b.hi) (b.s.gcd : Int)
    have q3 := Int.emod_nonneg c (show (b.s.gcd : Int) ≠ 0 by lia)
    have q4 := Int.emod_nonneg (-b.hi) (show (b.s.gcd : Int) ≠ 0 by lia)
    refine Classical.byContradiction fun no => ?_
    have q5 : 1 ≤ c / (b.s.gcd : Int) + (-b.hi) / (b.s.gcd : Int) := by lia
    have q6 := mulL (k := (b.s.gcd : Int)) (by lia) q5
    rw [Int.mul_add] at q6
    lia
  have q := h (c / (b.s.gcd : Int)) l1 l2
  have q' : SS (m + c / (b.s.gcd : Int)) (m' + c / (b.s.gcd : Int)) := by
    rw [← hm, ← hm']
    exact q
  have r0 := Int.emod_nonneg c (show (b.s.gcd : Int) ≠ 0 by lia)
  have r1 := Int.emod_lt_of_pos c gq
  have r2 := Int.mul_ediv_add_emod c (b.s.gcd : Int)
  rw [e1, e2]
  generalize (b.s.gcd : Int) = g at *
  generalize c / g = k at *
  generalize c % g = r at *
  have key : ∀ z : Int, (g * z + c < 0 ↔ z + k < 0) ∧ (g * z + c = 0 ↔ z + k = 0 ∧ r = 0) := by
    intro z
    have ez : g * z + c = g * (z + k) + r := by rw [Int.mul_add]; lia
    rw [ez]
    generalize z + k = y
    rcases Int.lt_trichotomy y 0 with p | p | p
    · have := mulL (k := g) (by lia) (show y ≤ -1 by lia)
      (clear ez z r2 r0 q' q l2 l1 k e2 hm' e1 hm m' m gp h2 h1 c h v' v hz b; omega)
    · subst p
      simp
      omega
    · have := mulL (k := g) (by lia) (show 1 ≤ y by lia)
      (clear ez z r2 r1 q' q l2 l1 k e2 hm' e1 hm m' m gp h2 h1 c h v' v hz b; omega)
  have k1 := key m
  have k2 := key m'
  unfold SS at *
  lia
theorem without_band {u : Nat} {o : Ol} {v v' : Val} (h : Agree (without u o) v v') {b : Band}
    (hb : b ∈ (o.1.filter fun b => decide (b.s.get u = 0)) ++ (turning u o.1).flatMap fun st => (turning u o.1).map fun b => putIn u (scaleOf u (turning u o.1)) (scaleOf u (turning u o.1) * o.2) st b) :
    ∀ c, b.lo ≤ c → c ≤ b.hi → SS (b.s.dot v + c) (b.s.dot v' + c) := by
  by_cases hz : b.s.isZ = true
  · intro c _ _
    rw [V3.dot_isZ hz, V3.dot_isZ hz]
    exact SS.refl _
  · have hz' : b.s.isZ = false := by simpa using hz
    refine lowest_ss hz' (h.1 (lowest b) ?_)
    unfold without
    exact List.mem_map.mpr ⟨b, List.mem_filter.mpr ⟨hb, by rw [hz']; rfl⟩, rfl⟩
theorem dot_congr_dvd (s : V3) {u : Nat} (hu : u < 3) {v v' : Val} {P : Nat} (h : ∀ k, k < 3 → v k % P = v' k % P) : ∃ e : Int, s.dot (put v u 0) - s.dot (put v' u 0) = (P : Int) * e := by
  have d : ∀ k, k < 3 → ∃ e : Int, (v k : Int) - (v' k : Int) = (P : Int) * e := by
    intro k hk
    have := h k hk
    have q : ((v k : Int) - (v' k : Int)) % (P : Int) = 0 := Int.emod_eq_emod_iff_emod_sub_eq_zero.mp (by lia)
    exact Int.dvd_of_emod_eq_zero q
  obtain ⟨e0, h0⟩ := d 0 (by decide)
  obtain ⟨e1, h1⟩ := d 1 (by decide)
  obtain ⟨e2, h2⟩ := d 2 (by decide)
  have a0 : (v 0 : Int) = (v' 0 : Int) + P * e0 := by lia
  have a1 : (v 1 : Int) = (v' 1 : Int) + P * e1 := by lia
  have a2 : (v 2 : Int) = (v' 2 : Int) + P * e2 := by lia
  rcases lt3 hu with rfl | rfl | rfl
  · exact ⟨s.y * e1 + s.z * e2, by simp [V3.dot, put]; rw [a1, a2]; grind⟩
  · exact ⟨s.x * e0 + s.z * e2, by simp [V3.dot, put]; rw [a0, a2]; grind⟩
  · exact ⟨s.x * e0 + s.y * e1, by simp [V3.dot, put]; rw [a0, a1]; grind⟩
theorem changed {a r : Int} (ha : 0 < a) {n P : Int} (hP : 0 < P) (h : ¬ SS (a * n + r) (a * (n - P) + r)) : 0 ≤ a * n + r ∧ a * (n - P) + r ≤ 0 := by
  have := mulL (k := a) (by lia) (show n - P ≤ n - 1 by lia)
  have e : a * (n - 1) = a * n - a := by grind
  unfold SS at h
  (clear hP; omega)
theorem without_ok {u : Nat} (hu : u < 3) {o : Ol} (hP : 0 < o.2) {v v' : Val} (h : Agree (without u o) v v') : ∀ n : Nat, ∃ n' : Nat, Agree o (put v u n) (put v' u n') := by
  have hres : ∀ k, k < 3 → v k % (scaleOf u (turning u o.1) * o.2) = v' k % (scaleOf u (turning u o.1) * o.2) := h.2
  have tp := turning_pos hu (bs := o.1)
  generalize hts : turning u o.1 = ts at *
  have sdv := (scale_dvd (u := u) ts 1).2
  have spos : 0 < scaleOf u ts := scale_pos ts 1 (by decide) tp
  have main : ∀ (n : Nat) (f : Band), f ∈ ts → ∀ c, f.lo ≤ c → c ≤ f.hi → 0 ≤ f.s.dot (put v u n) + c → f.s.dot (put v u 0) + f.s.get u * ((n : Int) - o.2) + c ≤ 0 → ∃ n' : Nat, Agree o (put v u n) (put v' u n') := by
    intro n f hf c c1 c2 p1 p2
    have af := tp f hf
    obtain ⟨sg, hsg⟩ := sdv f hf
    have hsg' : (scaleOf u ts : Int) = f.s.get u * (sg : Int) := by
      have q : (scaleOf u ts : Int) = ((f.s.get u).toNat : Int) * (sg : Int) := by
        have : scaleOf u ts = (f.s.get u).toNat * sg := hsg
        rw [this]; simp
      rw [q, show ((f.s.get u).toNat : Int) = f.s.get u by (clear q hsg sg p2 p1 c2 c1 c hf n spos sdv tp hts h hu; lia)]
    have sgp : 0 < sg := by
      rcases Nat.eq_zero_or_pos sg with z | z
      · rw [z] at hsg'; simp at hsg'; lia
      · exact z
    have hdiv : (scaleOf u ts : Int) / f.s.get u = (sg : Int) := by
      rw [hsg']
      exact Int.mul_ediv_cancel_left _ (by lia)
    obtain ⟨e, he⟩ := dot_congr_dvd f.s hu hres
    rw [V3.dot_put f.s v hu n] at p1
    generalize hrf : f.s.dot (put v u 0) = rf at *
    generalize hrf' : f.s.dot (put v' u 0) = rf' at *
    generalize hsc : scaleOf u ts = sc at *
    have he' : rf - rf' = (sc : Int) * (o.2 : Int) * e := by rw [he]; simp
    have G1 : 0 ≤ (sg : Int) * (f.s.get u * (n : Int) + rf + c) := Int.mul_nonneg (by lia) (by omega)
    have G2 : (sg : Int) * (f.s.get u * (n : Int) + rf + c) ≤ (sc : Int) * (o.2 : Int) := by
      have q := mulL (k := (sg : Int)) (by lia) p2
      have q2 : (sg : Int) * (rf + f.s.get u * ((n : Int) - o.2) + c) = (sg : Int) * (f.s.get u * (n : Int) + rf + c) - (f.s.get u * (sg : Int)) * (o.2 : Int) := by grind
      rw [q2, ← hsg'] at q
      (clear q2 he' he hdiv hsg' spos hres hsc hrf' rf' p2 p1 hrf e sgp hsg af c2 c1 hf sdv tp hts ts h v' v hP hu; omega)
    have eG : (sc : Int) * (n : Int) = (sg : Int) * (f.s.get u * (n : Int) + rf + c) - (sg : Int) * (rf + c) := by rw [hsg']; grind
    generalize hG : (sg : Int) * (f.s.get u * (n : Int) + rf + c) = G at *
    generalize hN : (n : Int) + (sg : Int) * (o.2 : Int) * e = N
    have eN : (sc : Int) * N = G - (sg : Int) * (rf' + c) := by
      have q : (sc : Int) * N = (sc : Int) * (n : Int) + (sg : Int) * ((sc : Int) * (o.2 : Int) * e) := by rw [← hN]; grind
      rw [q, ← he', eG]; grind
    have sgn : ∀ g ∈ ts, ∀ c', g.lo ≤ c' → c' ≤ g.hi → SS (g.s.get u * (n : Int) + g.s.dot (put v u 0) + c') (g.s.get u * N + g.s.dot (put v' u 0) + c') := by
      intro g hg c' d1 d2
      have ag := tp g hg
      have memb : putIn u sc (sc * o.2) f g ∈ (o.1.filter fun b => decide (b.s.get u = 0)) ++ ts.flatMap fun st => ts.map fun b => putIn u sc (sc * o.2) st b :=
        List.mem_append_right _ (List.mem_flatMap.mpr ⟨f, hf, List.mem_map.mpr ⟨g, hg, rfl⟩⟩)
      have wb := without_band h (b := putIn u sc (sc * o.2) f g) (by rw [hts, hsc]; exact memb)
      have hb1 : (putIn u sc (sc * o.2) f g).s = V3.comb sc (g.s.get u * (sg : Int)) g.s f.s := by unfold putIn; simp only [hdiv]
      have hb2 : (putIn u sc (sc * o.2) f g).lo = sc * g.lo - g.s.get u * (sg : Int) * f.hi := by unfold putIn; simp only [hdiv]
      have hb3 : (putIn u sc (sc * o.2) f g).hi = sc * g.hi - g.s.get u * (sg : Int) * f.lo + g.s.get u * ((sc * o.2 : Nat) : Int) := by unfold putIn; simp only [hdiv]
      have z0 : (V3.comb sc (g.s.get u * (sg : Int)) g.s f.s).get u = 0 := by rw [V3.get_comb, hsg']; grind
      have t1 : (0 : Int) ≤ g.s.get u * (sg : Int) := Int.mul_nonneg (by lia) (by lia)
      have w := wb ((sc : Int) * c' - g.s.get u * (sg : Int) * c + g.s.get u * G) (by
          rw [hb2]
          have m1 := mulL (k := (sc : Int)) (by lia) d1
          have m2 := mulL (k := g.s.get u * (sg : Int)) t1 c2
          have m3 := Int.mul_nonneg (show 0 ≤ g.s.get u by lia) G1
          (clear t1 z0 hb3 hb2 hb1 wb memb ag d2 d1 hg eN hN N eG G2 G1 hG he' he hdiv hsg' spos hres hsc hrf' rf' p2 p1 hrf rf e sgp hsg af c2 c1 hf n sdv tp hts ts h v' v hP o hu; lia)) (by
          rw [hb3]
          have m1 := mulL (k := (sc : Int)) (by lia) d2
          have m2 := mulL (k := g.s.get u * (sg : Int)) t1 c1
          have m3 := mulL (k := g.s.get u) (by lia) G2
          have m4 : ((sc * o.2 : Nat) : Int) = (sc : Int) * (o.2 : Int) := by simp
          rw [m4]
          (clear m4 t1 z0 hb3 hb2 hb1 wb memb ag d2 d1 hg eN hN N eG G2 G1 hG he' he hdiv hsg' spos hres hsc hrf' rf' p2 p1 hrf rf e sgp hsg af c2 c1 hf n sdv tp hts ts h v' v hP hu; lia))
      rw [hb1, ← V3.dot_without hu z0 v 0, ← V3.dot_without hu z0 v' 0, V3.dot_comb, V3.dot_comb, hrf, hrf'] at w
      refine SS.mul (s := (sc : Int)) (by (clear w t1 z0 hb3 hb2 hb1 wb memb ag d2 d1 c' hg g eN hN N eG G2 G1 hG G he' he hdiv hsg' hres hsc hrf' rf' p2 p1 hrf rf e sgp hsg sg af c2 c1 c hf f n sdv tp hts ts h v' v hP o hu u; lia)) ?_
      have x1 : (sc : Int) * (g.s.get u * (n : Int) + g.s.dot (put v u 0) + c') = (sc : Int) * g.s.dot (put v u 0) - g.s.get u * (sg : Int) * rf + ((sc : Int) * c' - g.s.get u * (sg : Int) * c + g.s.get u * G) := by
        have : (sc : Int) * (g.s.get u * (n : Int) + g.s.dot (put v u 0) + c') = g.s.get u * ((sc : Int) * (n : Int)) + (sc : Int) * g.s.dot (put v u 0) + (sc : Int) * c' := by grind
        rw [this, eG]; grind
      have x2 : (sc : Int) * (g.s.get u * N + g.s.dot (put v' u 0) + c') = (sc : Int) * g.s.dot (put v' u 0) - g.s.get u * (sg : Int) * rf' + ((sc : Int) * c' - g.s.get u * (sg : Int) * c + g.s.get u * G) := by
        have : (sc : Int) * (g.s.get u * N + g.s.dot (put v' u 0) + c') = g.s.get u * ((sc : Int) * N) + (sc : Int) * g.s.dot (put v' u 0) + (sc : Int) * c' := by grind
        rw [this, eN]; grind
      rw [x1, x2]
      exact w
    have Npos : 0 ≤ N := by
      have q := sgn ⟨V3.unit u, 0, 0⟩ (by rw [← hts]; exact unit_mem u o.1) 0 (Int.le_refl 0) (Int.le_refl 0)
      simp only [V3.get_unit hu, V3.dot_unit _ hu] at q
      have p0 : ((put v u 0 u : Nat) : Int) = 0 := by simp [put]
      have p0' : ((put v' u 0 u : Nat) : Int) = 0 := by simp [put]
      rw [p0, p0'] at q
      unfold SS at q
      lia
    refine ⟨N.toNat, fun b hb => ?_, fun k hk => ?_⟩
    · by_cases hz : b.s.get u = 0
      · have wb := without_band h (b := b) (by
          rw [hts]
          exact List.mem_append_left _ (List.mem_filter.mpr ⟨hb, by simpa using hz⟩))
        rw [V3.dot_without hu hz, V3.dot_without hu hz]
        exact wb
      · refine rising_ss (u := u) fun c' d1 d2 => ?_
        have q := sgn (rising u b) (by rw [← hts]; exact rising_mem hb hz) c' d1 d2
        rw [V3.dot_put _ v hu, V3.dot_put _ v' hu, show ((N.toNat : Nat) : Int) = N by (clear q d2 d1 c' hz hb b eN hN eG G2 G1 hG G he' he hdiv hsg' spos hres hsc sc hrf' rf' p2 p1 hrf rf e sgp hsg sg af c2 c1 c hf f sdv tp hts h hP o hu; lia)]
        exact q
    · by_cases hk' : k = u
      · subst hk'
        have p1 : put v k n k = n := by simp [put]
        have p2 : put v' k N.toNat k = N.toNat := by simp [put]
        rw [p1, p2]
        have q : (((N.toNat : Nat) : Int) - (n : Int)) % (o.2 : Int) = 0 := by
          rw [show ((N.toNat : Nat) : Int) = N by lia, ← hN]
          have : (n : Int) + (sg : Int) * (o.2 : Int) * e - (n : Int) = (o.2 : Int) * ((sg : Int) * e) := by grind
          rw [this]
          exact Int.mul_emod_right _ _
        have := Int.emod_eq_emod_iff_emod_sub_eq_zero.mpr q
        lia
      · have p1 : put v u n k = v k := by simp [put, hk']
        have p2 : put v' u N.toNat k = v' k := by simp [put, hk']
        rw [p1, p2]
        have q := hres k hk
        have := congrArg (· % o.2) q
        simp only [Nat.mod_mul_left_mod] at this
        exact this
  intro n
  induction n using Nat.strongRecOn with
  | ind n ih =>
    by_cases g : n < o.2
    · refine main n ⟨V3.unit u, 0, 0⟩ (by rw [← hts]; exact unit_mem u o.1) 0 (Int.le_refl 0) (Int.le_refl 0) ?_ ?_
      · show 0 ≤ (V3.unit u).dot (put v u n) + 0
        rw [V3.dot_unit _ hu]; lia
      · show (V3.unit u).dot (put v u 0) + (V3.unit u).get u * ((n : Int) - o.2) + 0 ≤ 0
        rw [V3.dot_unit _ hu, V3.get_unit hu]
        have p0 : ((put v u 0 u : Nat) : Int) = 0 := by simp [put]
        rw [p0]; lia
    · by_cases g2 : ∀ b ∈ o.1, ∀ c, b.lo ≤ c → c ≤ b.hi → SS (b.s.dot (put v u n) + c) (b.s.dot (put v u (n - o.2)) + c)
      · obtain ⟨n', a1, a2⟩ := ih (n - o.2) (by (clear g2 ih main spos sdv tp hres hts ts h v' v hu u; omega))
        refine ⟨n', fun b hb c c1 c2 => (g2 b hb c c1 c2).trans (a1 b hb c c1 c2), fun k hk => ?_⟩
        rw [← a2 k hk]
        by_cases hk' : k = u
        · subst hk'
          have p1 : put v k n k = n := by simp [put]
          have p2 : put v k (n - o.2) k = n - o.2 := by simp [put]
          rw [p1, p2]
          conv => lhs; rw [show n = n - o.2 + o.2 by lia]
          exact Nat.add_mod_right _ _
        · have p1 : put v u n k = v k := by simp [put, hk']
          have p2 : put v u (n - o.2) k = v k := by simp [put, hk']
          rw [p1, p2]
      · have g3 : ∃ b ∈ o.1, ¬ ∀ c, b.lo ≤ c → c ≤ b.hi → SS (b.s.dot (put v u n) + c) (b.s.dot (put v u (n - o.2)) + c) :=
          Classical.byContradiction fun no => g2 fun b hb => Classical.byContradiction fun q => no ⟨b, hb, q⟩
        obtain ⟨b, hb, hs⟩ := g3
        have hz : b.s.get u ≠ 0 := fun z => hs fun c _ _ => by
          rw [V3.dot_without hu z, V3.dot_without hu z]
          exact SS.refl _
        have hs' : ∃ c, (rising u b).lo ≤ c ∧ c ≤ (rising u b).hi ∧ ¬ SS ((rising u b).s.dot (put v u n) + c) ((rising u b).s.dot (put v u (n - o.2)) + c) :=
          Classical.byContradiction fun no => hs (rising_ss (u := u) fun c c1 c2 => Classical.byContradiction fun q => no ⟨c, c1, c2, q⟩)
        obtain ⟨c, c1, c2, q⟩ := hs'
        have rp := rising_pos hz
        rw [V3.dot_put _ v hu n, V3.dot_put _ v hu (n - o.2), show ((n - o.2 : Nat) : Int) = (n : Int) - (o.2 : Int) by (clear rp q c2 c1 c hz hs hb b g2 ih main spos sdv tp hres hts ts h v' v hu u; omega), Int.add_assoc, Int.add_assoc] at q
        have ch := changed rp (by lia) q
        refine main n (rising u b) (by rw [← hts]; exact rising_mem hb hz) c c1 c2 ?_ ?_
        · rw [V3.dot_put _ v hu n]; (clear rp q c2 c1 hz hs hb g2 g ih main spos sdv tp hres hts ts h v' hP hu; omega)
        · (clear rp q c2 c1 hz hs hb g2 g ih main spos sdv tp hres hts ts h v' hP hu; omega)
end WS
end
section
open Sy15 Sy15Neutral
namespace WS
def dsl (a b : Sum) : V3 := ⟨(a.x : Int) - b.x, (a.y : Int) - b.y, (a.z : Int) - b.z⟩
def dcn (a b : Sum) : Int := (a.c : Int) - b.c
theorem dif_dsl (a b : Sum) (v : Val) : (a.of_ v : Int) - (b.of_ v : Int) = (dsl a b).dot v + dcn a b := by
  simp only [Sum.of_, dsl, dcn, V3.dot]
  push_cast
  grind
def olAcc : T → Ol → Ol
  | .less a b, o => (o.1 ++ [⟨dsl a b, dcn a b, dcn a b⟩], o.2)
  | .same a b, o => (o.1 ++ [⟨dsl a b, dcn a b, dcn a b⟩], o.2)
  | .rest _ m _, o => (o.1, Nat.lcm o.2 m)
  | .not t, o => olAcc t o
  | .and s t, o => olAcc t (olAcc s o)
  | .or s t, o => olAcc t (olAcc s o)
  | .then_ s t, o => olAcc t (olAcc s o)
  | .all u t, o => (o.1 ++ (without u (olAcc t ([], 1))).1, Nat.lcm o.2 (without u (olAcc t ([], 1))).2)
  | .some_ u t, o => (o.1 ++ (without u (olAcc t ([], 1))).1, Nat.lcm o.2 (without u (olAcc t ([], 1))).2)
def ol (t : T) : Ol := olAcc t ([], 1)
theorem Agree.symm {o : Ol} {v v' : Val} (h : Agree o v v') : Agree o v' v := ⟨fun b hb c c1 c2 => (h.1 b hb c c1 c2).symm, fun k hk => (h.2 k hk).symm⟩
theorem mod_of_dvd {a b P Q : Nat} (h : a % Q = b % Q) (d : P ∣ Q) : a % P = b % P := by
  obtain ⟨k, rfl⟩ := d
  have := congrArg (· % P) h
  simp only [Nat.mod_mul_right_mod] at this
  exact this
theorem Agree.left {o i : Ol} {v v' : Val} (h : Agree (o.1 ++ i.1, Nat.lcm o.2 i.2) v v') : Agree o v v' :=
  ⟨fun b hb => h.1 b (List.mem_append_left _ hb), fun k hk => mod_of_dvd (h.2 k hk) (Nat.dvd_lcm_left _ _)⟩
theorem Agree.right {o i : Ol} {v v' : Val} (h : Agree (o.1 ++ i.1, Nat.lcm o.2 i.2) v v') : Agree i v v' :=
  ⟨fun b hb => h.1 b (List.mem_append_right _ hb), fun k hk => mod_of_dvd (h.2 k hk) (Nat.dvd_lcm_right _ _)⟩
theorem without_pos {u : Nat} (hu : u < 3) {o : Ol} (h : 0 < o.2) : 0 < (without u o).2 := Nat.mul_pos (scale_pos _ 1 (by decide) (turning_pos hu)) h
theorem of_dot (a : Sum) (v : Val) : (a.of_ v : Int) = (⟨a.x, a.y, a.z⟩ : V3).dot v + a.c := by
  simp only [Sum.of_, V3.dot]
  push_cast
  rfl
theorem sum_mod (a : Sum) {v v' : Val} {P : Nat} (h : ∀ k, k < 3 → v k % P = v' k % P) : a.of_ v % P = a.of_ v' % P := by
  have e : ∀ (k : Nat) (i : Nat), i < 3 → (k * v i) % P = (k * v' i) % P := fun k i hi => by
    rw [Nat.mul_mod, h i hi, ← Nat.mul_mod]
  unfold Sum.of_
  have h0 := e a.x 0 (by decide)
  have h1 := e a.y 1 (by decide)
  have h2 := e a.z 2 (by decide)
  have cg : ∀ {p q r s : Nat}, p % P = q % P → r % P = s % P → (p + r) % P = (q + s) % P := fun {p q r s} i j => by
    rw [Nat.add_mod, i, j, ← Nat.add_mod]
  exact cg (cg (cg h0 h1) h2) rfl
theorem ol_sound : ∀ {t : T}, WF t → ∀ (o : Ol), 0 < o.2 → 0 < (olAcc t o).2 ∧ ∀ v v' : Val, Agree (olAcc t o) v v' → Agree o v v' ∧ (Sem t v ↔ Sem t v') := by
  have bnd : ∀ {u : Nat} {t : T}, u < 3 → (∀ (o : Ol), 0 < o.2 → 0 < (olAcc t o).2 ∧ ∀ v v' : Val, Agree (olAcc t o) v v' → Agree o v v' ∧ (Sem t v ↔ Sem t v')) →
      ∀ v v' : Val, Agree (without u (olAcc t ([], 1))) v v' → ∀ n, ∃ n', (Sem t (put v u n) ↔ Sem t (put v' u n')) := by
    intro u t hu ih v v' h n
    obtain ⟨n', a⟩ := without_ok hu (ih ([], 1) (by decide)).1 h n
    exact ⟨n', ((ih ([], 1) (by decide)).2 _ _ a).2⟩
  intro t
  induction t with
  | less a b =>
    intro _ o ho
    refine ⟨ho, fun v v' h => ⟨⟨fun b' hb => h.1 b' (List.mem_append_left _ hb), h.2⟩, ?_⟩⟩
    have q := h.1 ⟨dsl a b, dcn a b, dcn a b⟩ (by simp [olAcc]) (dcn a b) (Int.le_refl _) (Int.le_refl _)
    rw [← dif_dsl, ← dif_dsl] at q
    simp only [Sem, SS] at *
    (clear h ho o bnd; lia)
  | same a b =>
    intro _ o ho
    refine ⟨ho, fun v v' h => ⟨⟨fun b' hb => h.1 b' (List.mem_append_left _ hb), h.2⟩, ?_⟩⟩
    have q := h.1 ⟨dsl a b, dcn a b, dcn a b⟩ (by simp [olAcc]) (dcn a b) (Int.le_refl _) (Int.le_refl _)
    rw [← dif_dsl, ← dif_dsl] at q
    simp only [Sem, SS] at *
    (clear h ho o bnd; lia)
  | rest a m r =>
    intro wf o ho
    refine ⟨Nat.lcm_pos ho (by simp only [WF] at wf; lia), fun v v' h => ⟨⟨h.1, fun k hk => mod_of_dvd (h.2 k hk) (Nat.dvd_lcm_left _ _)⟩, ?_⟩⟩
    simp only [Sem]
    rw [sum_mod a fun k hk => mod_of_dvd (h.2 k hk) (Nat.dvd_lcm_right _ _)]
  | not t ih =>
    intro wf o ho
    have q := ih wf o ho
    exact ⟨q.1, fun v v' h => ⟨(q.2 v v' h).1, not_congr (q.2 v v' h).2⟩⟩
  | and s t ihs iht =>
    intro wf o ho
    have q := ihs wf.1 o ho
    have q2 := iht wf.2 (olAcc s o) q.1
    refine ⟨q2.1, fun v v' h => ?_⟩
    obtain ⟨h1, h2⟩ := q2.2 v v' h
    obtain ⟨h3, h4⟩ := q.2 v v' h1
    exact ⟨h3, and_congr h4 h2⟩
  | or s t ihs iht =>
    intro wf o ho
    have q := ihs wf.1 o ho
    have q2 := iht wf.2 (olAcc s o) q.1
    refine ⟨q2.1, fun v v' h => ?_⟩
    obtain ⟨h1, h2⟩ := q2.2 v v' h
    obtain ⟨h3, h4⟩ := q.2 v v' h1
    exact ⟨h3, or_congr h4 h2⟩
  | then_ s t ihs iht =>
    intro wf o ho
    have q := ihs wf.1 o ho
    have q2 := iht wf.2 (olAcc s o) q.1
    refine ⟨q2.1, fun v v' h => ?_⟩
    obtain ⟨h1, h2⟩ := q2.2 v v' h
    obtain ⟨h3, h4⟩ := q.2 v v' h1
    exact ⟨h3, imp_congr h4 h2⟩
  | all u t ih =>
    intro wf o ho
    have q := ih wf.2
    refine ⟨Nat.lcm_pos ho (without_pos wf.1 (q ([], 1) (by decide)).1), fun v v' h => ⟨h.left, ?_⟩⟩
    simp only [Sem]
    constructor
    · intro g n
      obtain ⟨n', e⟩ := bnd wf.1 q v' v h.right.symm n
      exact e.mpr (g n')
    · intro g n
      obtain ⟨n', e⟩ := bnd wf.1 q v v' h.right n
      exact e.mpr (g n')
  | some_ u t ih =>
    intro wf o ho
    have q := ih wf.2
    refine ⟨Nat.lcm_pos ho (without_pos wf.1 (q ([], 1) (by decide)).1), fun v v' h => ⟨h.left, ?_⟩⟩
    simp only [Sem]
    constructor
    · rintro ⟨n, g⟩
      obtain ⟨n', e⟩ := bnd wf.1 q v v' h.right n
      exact ⟨n', e.mp g⟩
    · rintro ⟨n, g⟩
      obtain ⟨n', e⟩ := bnd wf.1 q v' v h.right.symm n
      exact ⟨n', e.mp g⟩
inductive U where
  | of (t : T)
  | diff (s t : T)
  | ex (u : Nat) (b : U)
def U.dn : U → T
  | .of t => t
  | .diff s t => .and s t
  | .ex u b => .some_ u b.dn
instance : Coe U T := ⟨U.dn⟩
def SemU : U → Val → Prop
  | .of t, v => Sem t v
  | .diff s t, v => ¬ (Sem s v ↔ Sem t v)
  | .ex u b, v => ∃ n, SemU b (put v u n)
theorem olU_sound : ∀ {t : U}, WF t.dn → 0 < (ol t.dn).2 ∧ ∀ v v' : Val, Agree (ol t.dn) v v' → (SemU t v ↔ SemU t v') := by
  intro t
  induction t with
  | of t => exact fun wf => ⟨(ol_sound wf ([], 1) (by decide)).1, fun v v' h => ((ol_sound wf ([], 1) (by decide)).2 v v' h).2⟩
  | diff s t =>
    intro wf
    have q := ol_sound wf.1 ([], 1) (by decide)
    have q2 := ol_sound wf.2 (olAcc s ([], 1)) q.1
    refine ⟨q2.1, fun v v' h => ?_⟩
    obtain ⟨h1, h2⟩ := q2.2 v v' h
    obtain ⟨_, h4⟩ := q.2 v v' h1
    exact not_congr (iff_congr h4 h2)
  | ex u b ih =>
    intro wf
    have q := ih wf.2
    have half : ∀ v v' : Val, Agree (without u (ol b.dn)) v v' → (∃ n, SemU b (put v u n)) → ∃ n, SemU b (put v' u n) := by
      rintro v v' h ⟨n, g⟩
      obtain ⟨n', a⟩ := without_ok wf.1 q.1 h n
      exact ⟨n', (q.2 _ _ a).mp g⟩
    refine ⟨Nat.lcm_pos (by decide) (without_pos wf.1 q.1), fun v v' h => ?_⟩
    have h' := Agree.right (o := ([], 1)) (i := without u (ol b.dn)) h
    exact ⟨half v v' h', half v' v h'.symm⟩
def cutB (u P : Nat) (v : Val) (b : Band) : Int × Int :=
  let r := rising u b
  (max ((-(r.s.dot (put v u 0) + r.hi)) / r.s.get u) 0, (-(r.s.dot (put v u 0) + r.lo)) / r.s.get u + 1 + P)
def cuts (u : Nat) (o : Ol) (v : Val) : List (Int × Int) := (0, (o.2 : Int)) :: (o.1.filter fun b => decide (b.s.get u ≠ 0)).map (cutB u o.2 v)
theorem in_cuts {u : Nat} (hu : u < 3) {o : Ol} (hP : 0 < o.2) {v : Val} {W : Nat → Prop} (hW : ∀ m n, Agree o (put v u m) (put v u n) → (W m ↔ W n)) {n : Nat} (hn : W n) (hl : ∀ m, m < n → ¬ W m) :
    ∃ c ∈ cuts u o v, c.1 ≤ (n : Int) ∧ (n : Int) < c.2 := by
  by_cases g : n < o.2
  · exact ⟨_, List.mem_cons_self, by simp; omega⟩
  · have na : ¬ Agree o (put v u (n - o.2)) (put v u n) := fun a => hl (n - o.2) (by (clear a hl hn hW W v hu u; omega)) ((hW _ _ a).mpr hn)
    have res : ∀ k, k < 3 → put v u (n - o.2) k % o.2 = put v u n k % o.2 := by
      intro k hk
      by_cases hk' : k = u
      · subst hk'
        have p1 : put v k n k = n := by simp [put]
        have p2 : put v k (n - o.2) k = n - o.2 := by simp [put]
        rw [p1, p2]
        conv => rhs; rw [show n = n - o.2 + o.2 by lia]
        exact (Nat.add_mod_right _ _).symm
      · simp [put, hk']
    have g3 : ∃ b ∈ o.1, ¬ ∀ c, b.lo ≤ c → c ≤ b.hi → SS (b.s.dot (put v u n) + c) (b.s.dot (put v u (n - o.2)) + c) :=
      Classical.byContradiction fun no => na ⟨fun b hb => Classical.byContradiction fun q => no ⟨b, hb, fun z => q fun c c1 c2 => (z c c1 c2).symm⟩, res⟩
    obtain ⟨b, hb, hs⟩ := g3
    have hz : b.s.get u ≠ 0 := fun z => hs fun c _ _ => by
      rw [V3.dot_without hu z, V3.dot_without hu z]
      exact SS.refl _
    have hs' : ∃ c, (rising u b).lo ≤ c ∧ c ≤ (rising u b).hi ∧ ¬ SS ((rising u b).s.dot (put v u n) + c) ((rising u b).s.dot (put v u (n - o.2)) + c) :=
      Classical.byContradiction fun no => hs (rising_ss (u := u) fun c c1 c2 => Classical.byContradiction fun q => no ⟨c, c1, c2, q⟩)
    obtain ⟨c, c1, c2, q⟩ := hs'
    have rp := rising_pos hz
    rw [V3.dot_put _ v hu n, V3.dot_put _ v hu (n - o.2), show ((n - o.2 : Nat) : Int) = (n : Int) - (o.2 : Int) by (clear rp q c2 c1 c hz hs hb b res na hl hn hW W v hu u; omega), Int.add_assoc, Int.add_assoc] at q
    have ch := changed rp (by lia) q
    refine ⟨cutB u o.2 v b, List.mem_cons_of_mem _ (List.mem_map.mpr ⟨b, List.mem_filter.mpr ⟨hb, by simpa using hz⟩, rfl⟩), ?_, ?_⟩
    · unfold cutB
      simp only
      have h1 : (-((rising u b).s.dot (put v u 0) + (rising u b).hi)) / (rising u b).s.get u ≤ (n : Int) := by
        refine Int.le_trans (Int.ediv_le_ediv rp (show _ ≤ (rising u b).s.get u * (n : Int) by (clear rp q c1 hz hs hb res na g hl hn hW W hP hu; omega))) ?_
        rw [Int.mul_ediv_cancel_left _ (by lia)]
        exact Int.le_refl _
      (clear rp q c2 c1 hz hs hb res g hl hn hW W hP hu; lia)
    · unfold cutB
      simp only
      have h2 : (n : Int) - (o.2 : Int) ≤ (-((rising u b).s.dot (put v u 0) + (rising u b).lo)) / (rising u b).s.get u := by
        rw [Int.le_ediv_iff_mul_le rp]
        rw [Int.mul_comm]
        (clear rp q c2 hz hs hb res na g hl hn hW W hP hu; omega)
      (clear ch rp q c2 c1 c hz hs hb res na hl hn hW W hP hu; omega)
end WS
end
section
open Sy15 Sy15Neutral
namespace WS
def zSum : Sum := ⟨0, 0, 0, 0⟩
def partM : Bytes → Option (Sum × Bytes)
  | [] => none
  | c :: r => match unknown c with
    | some u => some (times 1 u, r)
    | none => match digit c with
      | none => none
      | some k => if k = 0 then some (zSum, r) else match r with
        | [] => some (⟨0, 0, 0, k⟩, [])
        | e :: q => match unknown e with
          | some u => some (times k u, q)
          | none => match digit e with
            | some j => some (⟨0, 0, 0, 10 * k + j⟩, q)
            | none => some (⟨0, 0, 0, k⟩, e :: q)
def moreM : Nat → Sum → Bytes → Option (Sum × Bytes)
  | 0, _, _ => none
  | k + 1, acc, l => match l with
    | 43 :: r => (match partM r with
      | none => none
      | some (a, r') => moreM k (acc.add a) r')
    | _ => some (acc, l)
def sumM (l : Bytes) : Option (Sum × Bytes) := match partM l with
  | none => none
  | some (a, r) => moreM (r.length + 1) a r
def dead (l : Bytes) : Prop := ∃ e q, l = e :: q ∧ ((unknown e).isSome = true ∨ (digit e).isSome = true)
theorem add_assoc' (a b c : Sum) : (a.add b).add c = a.add (b.add c) := by
  simp only [Sum.add, Nat.add_assoc]
theorem zadd (a : Sum) : zSum.add a = a := by
  cases a; simp [Sum.add, zSum]
theorem partM_len {l : Bytes} {a : Sum} {r : Bytes} (h : partM l = some (a, r)) : r.length < l.length := by
  unfold partM at h
  split at h
  · cases h
  · split at h
    · cases h; simp
    · split at h
      · cases h
      · split at h
        · cases h; simp
        · split at h
          · cases h; simp
          · split at h
            · cases h; simp; lia
            · split at h
              · cases h; simp; lia
              · cases h; simp
theorem moreM_fuel : ∀ (k k' : Nat) (acc : Sum) (l : Bytes), l.length < k → l.length < k' → moreM k acc l = moreM k' acc l
  | 0, _, _, _, h, _ => absurd h (Nat.not_lt_zero _)
  | _ + 1, 0, _, _, _, h => absurd h (Nat.not_lt_zero _)
  | k + 1, k' + 1, acc, l, h, h' => by
    unfold moreM
    split
    · rename_i r
      split
      · rfl
      · rename_i a r' e
        have := partM_len e
        simp at h h'
        exact moreM_fuel k k' _ r' (by lia) (by lia)
    · rfl
def more (acc : Sum) (l : Bytes) : Option (Sum × Bytes) := moreM (l.length + 1) acc l
theorem more_plus (acc : Sum) (r : Bytes) : more acc (43 :: r) = match partM r with
    | none => none
    | some (a, r') => more (acc.add a) r' := by
  unfold more
  rw [show moreM ((43 :: r).length + 1) acc (43 :: r) = (match partM r with
    | none => none
    | some (a, r') => moreM (43 :: r).length (acc.add a) r') from rfl]
  split
  · rfl
  · rename_i a r' e
    have := partM_len e
    exact moreM_fuel _ _ _ _ (by simp; lia) (by lia)
theorem more_stop (acc : Sum) {l : Bytes} (h : ∀ r, l ≠ 43 :: r) : more acc l = some (acc, l) := by
  unfold more moreM
  split
  · rename_i r
    exact absurd rfl (h r)
  · rfl
theorem sumM_eq (l : Bytes) : sumM l = match partM l with
    | none => none
    | some (a, r) => more a r := rfl
theorem moreM_len : ∀ (k : Nat) (acc : Sum) (l : Bytes) {a : Sum} {r : Bytes}, moreM k acc l = some (a, r) → r.length ≤ l.length
  | 0, _, _, _, _, h => by cases h
  | k + 1, acc, l, a, r, h => by
    unfold moreM at h
    split at h
    · split at h
      · cases h
      · rename_i a' r' e
        have := moreM_len k _ _ h
        have := partM_len e
        simp; lia
    · cases h; exact Nat.le_refl _
theorem sumM_len {l : Bytes} {a : Sum} {r : Bytes} (h : sumM l = some (a, r)) : r.length < l.length := by
  unfold sumM at h
  split at h
  · cases h
  · rename_i a' r' e
    have := partM_len e
    have := moreM_len _ _ _ h
    lia
theorem digit_some {c k : Nat} (h : digit c = some k) : 48 ≤ c ∧ c ≤ 57 ∧ k = c - 48 := by
  unfold digit at h
  split at h
  · rename_i q; cases h; exact ⟨q.1, q.2, rfl⟩
  · cases h
theorem digit_none {c : Nat} (h : digit c = none) : ¬ (48 ≤ c ∧ c ≤ 57) := by
  unfold digit at h
  split at h
  · cases h
  · assumption
theorem unknown_some {c k : Nat} (h : unknown c = some k) : 120 ≤ c ∧ c ≤ 122 ∧ k = c - 120 := by
  unfold unknown at h
  split at h
  · rename_i q; cases h; exact ⟨q.1, q.2, rfl⟩
  · cases h
theorem unknown_none {c : Nat} (h : unknown c = none) : ¬ (120 ≤ c ∧ c ≤ 122) := by
  unfold unknown at h
  split at h
  · cases h
  · assumption
theorem part_partM (l : Bytes) : part l = partM l ∨ (part l = none ∧ ∃ r, partM l = some (zSum, r) ∧ dead r) := by
  match l with
  | [] => exact .inl rfl
  | c :: r =>
    cases hu : unknown c with
    | some u => left; simp [part, partM, hu]
    | none =>
      cases hd : digit c with
      | none => left; simp [part, partM, hu, hd]
      | some k =>
        cases r with
        | nil =>
          by_cases k0 : k = 0
          · subst k0; left; simp [part, partM, hu, hd, zSum]
          · left; simp [part, partM, hu, hd, k0]
        | cons e q =>
          cases hu2 : unknown e with
          | some u =>
            by_cases k0 : k = 0
            · right
              subst k0
              exact ⟨by simp [part, hu, hd, hu2], e :: q, by simp [partM, hu, hd], e, q, rfl, .inl (by rw [hu2]; rfl)⟩
            · left; simp [part, partM, hu, hd, k0, hu2]
          | none =>
            cases hd2 : digit e with
            | some j =>
              by_cases k0 : k = 0
              · right
                subst k0
                exact ⟨by simp [part, hu, hd, hu2, hd2], e :: q, by simp [partM, hu, hd], e, q, rfl, .inr (by rw [hd2]; rfl)⟩
              · left; simp [part, partM, hu, hd, k0, hu2, hd2]
            | none =>
              by_cases k0 : k = 0
              · left; subst k0; simp [part, partM, hu, hd, hu2, hd2, zSum]
              · left; simp [part, partM, hu, hd, k0, hu2, hd2]
theorem dead_plus {l : Bytes} (h : dead l) : ∀ r, l ≠ 43 :: r := by
  rintro r rfl
  obtain ⟨e, q, h1, h2⟩ := h
  cases h1
  rcases h2 with h2 | h2 <;> simp [unknown, digit] at h2
theorem sum_more : ∀ (k : Nat) (l : Bytes) (acc : Sum), l.length < k →
    (match sum k l with
      | some (a, r) => ∃ a1 r1, partM l = some (a1, r1) ∧ more (acc.add a1) r1 = some (acc.add a, r)
      | none => partM l = none ∨ ∃ a1 r1, partM l = some (a1, r1) ∧ (more (acc.add a1) r1 = none ∨ ∃ a r, more (acc.add a1) r1 = some (a, r) ∧ dead r))
  | 0, l, acc, h => absurd h (Nat.not_lt_zero _)
  | k + 1, l, acc, h => by
    rw [sum]
    rcases part_partM l with e | ⟨e, r, e2, dr⟩
    · cases hp : part l with
      | none =>
        show partM l = none ∨ _
        left; rw [← e, hp]
      | some x =>
        obtain ⟨a1, r1⟩ := x
        have hm : partM l = some (a1, r1) := by rw [← e, hp]
        have hlen := partM_len hm
        match r1, hm, hlen with
        | [], hm, hlen =>
          exact ⟨a1, [], hm, more_stop _ (by simp)⟩
        | c :: r2, hm, hlen =>
          by_cases hc : c = 43
          · subst hc
            simp only
            have ih := sum_more k r2 (acc.add a1) (by simp at hlen; lia)
            cases hs : sum k r2 with
            | none =>
              rw [hs] at ih
              simp only [Option.map_none] at ih ⊢
              right
              refine ⟨a1, _, hm, ?_⟩
              rw [more_plus]
              rcases ih with ih | ⟨a3, r3, e3, e4⟩
              · rw [ih]; left; rfl
              · rw [e3]; exact e4
            | some y =>
              obtain ⟨a2, r3⟩ := y
              rw [hs] at ih
              simp only [Option.map_some] at ih ⊢
              obtain ⟨a3, r4, e3, e4⟩ := ih
              refine ⟨a1, _, hm, ?_⟩
              rw [more_plus, e3]
              simp only
              rw [e4, add_assoc']
          · split
            · rename_i a' r' q
              split at q
              · cases q
              · rename_i z; cases z; exact absurd rfl hc
              · rename_i z; cases z; cases q
                exact ⟨a1, _, hm, more_stop _ (by intro r q; cases q; exact hc rfl)⟩
            · rename_i q
              split at q
              · rename_i z; cases z
              · rename_i z; cases z; exact absurd rfl hc
              · cases q
    · rw [e]
      simp only
      right
      refine ⟨_, r, e2, .inr ⟨_, r, more_stop _ (dead_plus dr), dr⟩⟩
theorem sum_sumM (l : Bytes) : match sum (l.length + 1) l with
    | some (a, r) => sumM l = some (a, r)
    | none => sumM l = none ∨ ∃ a r, sumM l = some (a, r) ∧ dead r := by
  have h := sum_more (l.length + 1) l zSum (by lia)
  cases hs : sum (l.length + 1) l with
  | none =>
    rw [hs] at h
    simp only at h ⊢
    rw [sumM_eq]
    rcases h with h | ⟨a1, r1, e1, e2⟩
    · left; rw [h]
    · rw [e1]
      simp only
      rw [zadd] at e2
      exact e2
  | some y =>
    obtain ⟨a, r⟩ := y
    rw [hs] at h
    simp only at h ⊢
    obtain ⟨a1, r1, e1, e2⟩ := h
    rw [zadd, zadd] at e2
    rw [sumM_eq, e1]
    exact e2
def atomR (a : Sum) (r : Bytes) : Option (T × Bytes) := match r with
  | 60 :: r => (match sumM r with
    | some (b, 93 :: q) => some (.less a b, q)
    | _ => none)
  | 61 :: r => (match sumM r with
    | some (b, 93 :: q) => some (.same a b, q)
    | _ => none)
  | 37 :: m :: 61 :: r :: 93 :: q => (match digit m, digit r with
    | some i, some j => if 2 ≤ i ∧ j < i then some (.rest a i j, q) else none
    | _, _ => none)
  | _ => none
theorem dead_atomR {a : Sum} {r : Bytes} (h : dead r) : atomR a r = none := by
  obtain ⟨e, q, rfl, h2⟩ := h
  have hne : e ≠ 60 ∧ e ≠ 61 ∧ e ≠ 37 := by
    refine ⟨?_, ?_, ?_⟩ <;> rintro rfl <;> simp [unknown, digit] at h2
  unfold atomR
  split
  · rename_i z; cases z; exact absurd rfl hne.1
  · rename_i z; cases z; exact absurd rfl hne.2.1
  · rename_i z; cases z; exact absurd rfl hne.2.2
  · rfl
theorem right_eq (r : Bytes) (f : Sum → T) : (match sum (r.length + 1) r with
    | some (b, 93 :: q) => some (f b, q)
    | _ => none) = (match sumM r with
    | some (b, 93 :: q) => some (f b, q)
    | _ => none) := by
  have h := sum_sumM r
  cases hs : sum (r.length + 1) r with
  | some y =>
    rw [hs] at h
    obtain ⟨b, q⟩ := y
    simp only at h
    rw [h]
  | none =>
    rw [hs] at h
    simp only at h
    rcases h with h | ⟨b, q, h, d⟩
    · rw [h]
    · rw [h]
      obtain ⟨e, q', rfl, h2⟩ := d
      have hne : e ≠ 93 := by rintro rfl; simp [unknown, digit] at h2
      have z : (match (some (b, e :: q') : Option (Sum × Bytes)) with
        | some (b, 93 :: q) => some (f b, q)
        | _ => none) = none := by
        split
        · rename_i z; cases z; exact absurd rfl hne
        · rfl
      rw [z]
theorem atom_eq (l : Bytes) : atom l = (sumM l).bind fun x => atomR x.1 x.2 := by
  have h := sum_sumM l
  unfold atom
  cases hs : sum (l.length + 1) l with
  | none =>
    rw [hs] at h
    simp only at h ⊢
    rcases h with h | ⟨b, q, h, d⟩
    · rw [h]; rfl
    · rw [h]
      exact (dead_atomR d).symm
  | some y =>
    obtain ⟨a, r⟩ := y
    rw [hs] at h
    simp only at h
    rw [h]
    show _ = atomR a r
    unfold atomR
    split
    · rename_i z; cases z
      simp only
      exact right_eq _ _
    · rename_i z; cases z
      simp only
      exact right_eq _ _
    · rename_i z; cases z
      rfl
    · rename_i n1 n2 n3
      split
      · exact (n1 _ _ rfl).elim
      · exact (n2 _ _ rfl).elim
      · exact (n3 _ _ _ _ rfl).elim
      · rfl
theorem atomR_len {a : Sum} {r : Bytes} {t : T} {q : Bytes} (h : atomR a r = some (t, q)) : q.length < r.length := by
  unfold atomR at h
  split at h
  · split at h
    · rename_i z; cases h
      have := sumM_len z
      simp at this ⊢; lia
    · cases h
  · split at h
    · rename_i z; cases h
      have := sumM_len z
      simp at this ⊢; lia
    · cases h
  · split at h
    · split at h
      · cases h; simp; lia
      · cases h
    · cases h
  · cases h
theorem atom_len {l : Bytes} {t : T} {q : Bytes} (h : atom l = some (t, q)) : q.length < l.length := by
  rw [atom_eq] at h
  cases hs : sumM l with
  | none => rw [hs] at h; cases h
  | some y =>
    rw [hs] at h
    have := sumM_len (a := y.1) (r := y.2) hs
    have := atomR_len (show atomR y.1 y.2 = some (t, q) from h)
    lia
theorem text_cons (k c : Nat) (r : Bytes) : text (k + 1) (c :: r) = (if c = 91 then atom r
    else if c = 33 then (text k r).map fun x => (.not x.1, x.2)
    else if c = 65 ∨ c = 69 then (match r with
      | u :: q => (match unknown u with
        | some j => (text k q).map fun x => (if c = 65 then .all j x.1 else .some_ j x.1, x.2)
        | none => none)
      | [] => none)
    else if c = 40 then (match text k r with
      | some (s, o :: q) => (match text k q with
        | some (t, 41 :: u) => if o = 38 then some (.and s t, u) else if o = 124 then some (.or s t, u) else if o = 62 then some (.then_ s t, u) else none
        | _ => none)
      | _ => none)
    else none) := by
  rw [Sy15.text.eq_def]
  rfl
theorem text_len : ∀ (k : Nat) {l : Bytes} {t : T} {r : Bytes}, text k l = some (t, r) → r.length < l.length
  | 0, _, _, _, h => by cases h
  | k + 1, [], _, _, h => by cases h
  | k + 1, c :: l, t, r, h => by
    rw [text_cons] at h
    split at h
    · have := atom_len h; simp; lia
    · split at h
      · cases hx : text k l with
        | none => rw [hx] at h; cases h
        | some y =>
          rw [hx] at h; cases h
          have := text_len k (t := y.1) (r := y.2) hx
          simp; lia
      · split at h
        · split at h
          · rename_i u q
            split at h
            · cases hx : text k q with
              | none => rw [hx] at h; cases h
              | some y =>
                rw [hx] at h; cases h
                have := text_len k (t := y.1) (r := y.2) hx
                simp; lia
            · cases h
          · cases h
        · split at h
          · split at h
            · rename_i s o q hx
              have l1 := text_len k hx
              split at h
              · rename_i t' u hy
                have l2 := text_len k hy
                simp at l1 l2
                split at h
                · cases h; simp; lia
                · split at h
                  · cases h; simp; lia
                  · split at h
                    · cases h; simp; lia
                    · cases h
              · cases h
            · cases h
          · cases h
theorem text_fuel : ∀ (k k' : Nat) (l : Bytes), l.length < k → l.length < k' → text k l = text k' l
  | 0, _, _, h, _ => absurd h (Nat.not_lt_zero _)
  | _ + 1, 0, _, _, h => absurd h (Nat.not_lt_zero _)
  | k + 1, k' + 1, [], _, _ => rfl
  | k + 1, k' + 1, c :: l, h, h' => by
    simp at h h'
    have e1 := text_fuel k k' l (by omega) (by omega)
    rw [text_cons, text_cons, e1]
    split
    · rfl
    · split
      · rfl
      · split
        · split
          · rename_i u q
            rw [text_fuel k k' q (by simp at h; lia) (by simp at h'; lia)]
          · rfl
        · split
          · split
            · rename_i s o q hx
              have := text_len k' hx
              simp at this
              rw [text_fuel k k' q (by lia) (by lia)]
            · rfl
          · rfl
def tx (l : Bytes) : Option (T × Bytes) := text (l.length + 1) l
theorem tx_of {k : Nat} {l : Bytes} (h : l.length < k) : text k l = tx l := text_fuel k _ l h (by lia)
inductive Fm where
  | nt
  | op
  | jn (o : Nat) (s : T)
  | bd (q u : Nat)
def mkJ (o : Nat) (s t : T) : T := if o = 38 then .and s t else if o = 124 then .or s t else .then_ s t
def mkB (q u : Nat) (t : T) : T := if q = 65 then .all u t else .some_ u t
def isJ (o : Nat) : Prop := o = 38 ∨ o = 124 ∨ o = 62
instance (o : Nat) : Decidable (isJ o) := by unfold isJ; infer_instance
def fin : List Fm → T → Bytes → Option T
  | [], t, r => if r = [] then some t else none
  | .nt :: F, t, r => fin F (.not t) r
  | .bd q u :: F, t, r => fin F (mkB q u t) r
  | .jn o s :: F, t, r => match r with
    | 41 :: u => fin F (mkJ o s t) u
    | _ => none
  | .op :: F, s, r => match r with
    | o :: q => if isJ o then (match tx q with
      | some (t, 41 :: u) => fin F (mkJ o s t) u
      | _ => none) else none
    | [] => none
def goal (F : List Fm) (l : Bytes) : Option T := (tx l).bind fun x => fin F x.1 x.2
theorem goal_nil (F : List Fm) : goal F [] = none := rfl
theorem goal_claim (F : List Fm) (r : Bytes) : goal F (91 :: r) = (atom r).bind fun x => fin F x.1 x.2 := by
  unfold goal tx
  rw [show text ((91 :: r).length + 1) (91 :: r) = text ((r.length + 1) + 1) (91 :: r) from rfl, text_cons, if_pos rfl]
theorem goal_not (F : List Fm) (r : Bytes) : goal F (33 :: r) = goal (.nt :: F) r := by
  unfold goal
  rw [tx, show ∀ (c : Nat) (l : Bytes), text ((c :: l).length + 1) (c :: l) = text ((l.length + 1) + 1) (c :: l) from fun _ _ => rfl, text_cons, if_neg (by decide), if_pos rfl, tx_of (by simp)]
  cases tx r <;> rfl
theorem goal_bind (F : List Fm) {c u j : Nat} (r : Bytes) (hc : c = 65 ∨ c = 69) (hu : unknown u = some j) : goal F (c :: u :: r) = goal (.bd c j :: F) r := by
  unfold goal
  rw [tx, show ∀ (c : Nat) (l : Bytes), text ((c :: l).length + 1) (c :: l) = text ((l.length + 1) + 1) (c :: l) from fun _ _ => rfl, text_cons, if_neg (by lia), if_neg (by lia), if_pos hc]
  simp only [hu]
  rw [tx_of (by simp; lia)]
  cases tx r <;> rfl
theorem goal_bind0 (F : List Fm) {c u : Nat} (r : Bytes) (hc : c = 65 ∨ c = 69) (hu : unknown u = none) : goal F (c :: u :: r) = none := by
  unfold goal
  rw [tx, show ∀ (c : Nat) (l : Bytes), text ((c :: l).length + 1) (c :: l) = text ((l.length + 1) + 1) (c :: l) from fun _ _ => rfl, text_cons, if_neg (by lia), if_neg (by lia), if_pos hc]
  simp only [hu]
  rfl
theorem goal_bind1 (F : List Fm) {c : Nat} (hc : c = 65 ∨ c = 69) : goal F [c] = none := by
  unfold goal
  rw [tx, show ∀ (c : Nat) (l : Bytes), text ((c :: l).length + 1) (c :: l) = text ((l.length + 1) + 1) (c :: l) from fun _ _ => rfl, text_cons, if_neg (by lia), if_neg (by lia), if_pos hc]
  rfl
theorem goal_open (F : List Fm) (r : Bytes) : goal F (40 :: r) = goal (.op :: F) r := by
  unfold goal
  rw [tx, show ∀ (c : Nat) (l : Bytes), text ((c :: l).length + 1) (c :: l) = text ((l.length + 1) + 1) (c :: l) from fun _ _ => rfl, text_cons, if_neg (by decide), if_neg (by decide), if_neg (by decide), if_pos rfl, tx_of (by simp)]
  cases hx : tx r with
  | none => rfl
  | some y =>
    obtain ⟨s, q⟩ := y
    have hl := text_len _ hx
    simp only [Option.bind_some, fin]
    cases q with
    | nil => rfl
    | cons o q =>
      simp only
      have e : text (List.length r + 1) q = tx q := tx_of (by simp at hl ⊢; lia)
      rw [e]
      by_cases hj : isJ o
      · rw [if_pos hj]
        cases hy : tx q with
        | none => rfl
        | some z =>
          obtain ⟨t, u⟩ := z
          cases u with
          | nil => rfl
          | cons d u =>
            by_cases hd : d = 41
            · subst hd
              simp only
              rcases hj with rfl | rfl | rfl <;> rfl
            · have z1 : (match (some (t, d :: u) : Option (T × Bytes)) with
                | some (t, 41 :: u) => if o = 38 then some (T.and s t, u) else if o = 124 then some (T.or s t, u) else if o = 62 then some (T.then_ s t, u) else none
                | _ => none) = none := by
                split
                · rename_i w; cases w; exact absurd rfl hd
                · rfl
              have z2 : (match (some (t, d :: u) : Option (T × Bytes)) with
                | some (t, 41 :: u) => fin F (mkJ o s t) u
                | _ => none) = none := by
                split
                · rename_i w; cases w; exact absurd rfl hd
                · rfl
              rw [z1, z2]; rfl
      · rw [if_neg hj]
        unfold isJ at hj
        cases hy : tx q with
        | none => rfl
        | some z =>
          obtain ⟨t, u⟩ := z
          split
          · rename_i w; cases w
            rw [if_neg (by lia), if_neg (by lia), if_neg (by lia)]
            rfl
          · rfl
theorem goal_else (F : List Fm) {c : Nat} (r : Bytes) (h1 : c ≠ 91) (h2 : c ≠ 33) (h3 : c ≠ 65) (h4 : c ≠ 69) (h5 : c ≠ 40) : goal F (c :: r) = none := by
  unfold goal
  rw [tx, show ∀ (c : Nat) (l : Bytes), text ((c :: l).length + 1) (c :: l) = text ((l.length + 1) + 1) (c :: l) from fun _ _ => rfl, text_cons, if_neg h1, if_neg h2, if_neg (by lia), if_neg h5]
  rfl
theorem fin_open (F : List Fm) (s : T) {o : Nat} (q : Bytes) (h : isJ o) : fin (.op :: F) s (o :: q) = goal (.jn o s :: F) q := by
  unfold goal
  simp only [fin]
  rw [if_pos h]
  cases hy : tx q with
  | none => rfl
  | some z =>
    obtain ⟨t, u⟩ := z
    cases u with
    | nil => rfl
    | cons d u =>
      simp only [Option.bind_some]
      by_cases hd : d = 41
      · subst hd; rfl
      · split
        · rename_i w; cases w; exact absurd rfl hd
        · split
          · rename_i w; cases w; exact absurd rfl hd
          · rfl
theorem fin_open0 (F : List Fm) (s : T) {o : Nat} (q : Bytes) (h : ¬ isJ o) : fin (.op :: F) s (o :: q) = none := by
  simp only [fin]
  rw [if_neg h]
theorem read_goal (b : Bytes) : Sy15.read b = if 3 < (b.filter fun c => c == 65 || c == 69).length ∨ 8 < (b.filter fun c => c == 91).length then none else goal [] b := by
  unfold Sy15.read
  split
  · rfl
  · unfold goal tx
    cases hx : text (b.length + 1) b with
    | none => rfl
    | some y =>
      obtain ⟨t, r⟩ := y
      simp only [Option.bind_some, fin]
      cases r with
      | nil => rfl
      | cons a r => simp
def bnd (F : List Fm) (u : Nat) : Bool := F.any fun f => match f with
  | .bd _ w => w == u
  | _ => false
def frF : List Fm → Nat → Bool
  | [], _ => false
  | .jn _ s :: F, u => (s.free u && !bnd F u) || frF F u
  | .nt :: F, u => frF F u
  | .op :: F, u => frF F u
  | .bd _ _ :: F, u => frF F u
def frT (F : List Fm) (t : T) (u : Nat) : Bool := (t.free u && !bnd F u) || frF F u
theorem frT_nt (F : List Fm) (t : T) (u : Nat) : frT (.nt :: F) t u = frT F (.not t) u := rfl
theorem bnd_nt (F : List Fm) (u : Nat) : bnd (.nt :: F) u = bnd F u := by simp [bnd]
theorem bnd_op (F : List Fm) (u : Nat) : bnd (.op :: F) u = bnd F u := by simp [bnd]
theorem bnd_jn (F : List Fm) (o : Nat) (s : T) (u : Nat) : bnd (.jn o s :: F) u = bnd F u := by simp [bnd]
theorem bnd_bd (F : List Fm) (q w u : Nat) : bnd (.bd q w :: F) u = (w == u || bnd F u) := by simp [bnd]
theorem frT_bd (F : List Fm) (q w : Nat) (t : T) (u : Nat) : frT (.bd q w :: F) t u = frT F (mkB q w t) u := by
  unfold frT
  rw [bnd_bd, frF]
  have e : (mkB q w t).free u = (w != u && t.free u) := by unfold mkB; split <;> rfl
  rw [e]
  cases hw : (w == u) <;> simp [bne, hw]
theorem frT_jn (F : List Fm) (o : Nat) (s t : T) (u : Nat) : frT (.jn o s :: F) t u = frT F (mkJ o s t) u := by
  unfold frT
  rw [bnd_jn, frF]
  have e : (mkJ o s t).free u = (s.free u || t.free u) := by
    unfold mkJ
    split
    · rfl
    · split <;> rfl
  rw [e]
  cases s.free u <;> cases t.free u <;> cases bnd F u <;> cases frF F u <;> rfl
theorem frF_op (F : List Fm) (s : T) (o : Nat) (u : Nat) : frF (.jn o s :: F) u = frT (.op :: F) s u := rfl
inductive Step where
  | less (a b : Sum)
  | same (a b : Sum)
  | rest (a : Sum) (m r : Nat)
  | nt
  | jn (o : Nat)
  | bd (q u : Nat) (t : U)
def code : T → List Step
  | .less a b => [.less a b]
  | .same a b => [.same a b]
  | .rest a m r => [.rest a m r]
  | .not t => code t ++ [.nt]
  | .and s t => code s ++ (code t ++ [.jn 38])
  | .or s t => code s ++ (code t ++ [.jn 124])
  | .then_ s t => code s ++ (code t ++ [.jn 62])
  | .all u t => [.bd 65 u (.of t)]
  | .some_ u t => [.bd 69 u (.of t)]
def codeU : U → List Step
  | .of t => code t
  | .diff s t => code s ++ (code t ++ [.jn 94])
  | .ex u b => [.bd 69 u b]
def SemB (q u : Nat) (b : U) (v : Val) : Prop := if q = 65 then ∀ n, SemU b (put v u n) else ∃ n, SemU b (put v u n)
def isK (o : Nat) : Prop := isJ o ∨ o = 94
theorem code_mkJ {o : Nat} (s t : T) (h : isJ o) : code (mkJ o s t) = code s ++ (code t ++ [.jn o]) := by
  rcases h with rfl | rfl | rfl <;> rfl
theorem code_mkB {q : Nat} (u : Nat) (t : T) (h : q = 65 ∨ q = 69) : code (mkB q u t) = [.bd q u (.of t)] := by
  rcases h with rfl | rfl <;> rfl
def bods : List Fm → List (List Step)
  | [] => [[]]
  | .nt :: F => bods F
  | .op :: F => bods F
  | .jn _ s :: F => (match bods F with
    | b :: r => (b ++ code s) :: r
    | [] => [])
  | .bd _ _ :: F => [] :: bods F
noncomputable def tB (p : Prop) : Bool := @decide p (Classical.propDecidable p)
theorem tB_iff {p : Prop} : tB p = true ↔ p := by unfold tB; exact @decide_eq_true_iff p (Classical.propDecidable p)
theorem tB_of {p : Prop} [i : Decidable p] : decide p = tB p := by
  by_cases h : p
  · rw [tB_iff.mpr h]; simp [h]
  · have : tB p = false := by
      cases q : tB p with
      | false => rfl
      | true => exact absurd (tB_iff.mp q) h
    rw [this]; simp [h]
theorem tB_eq {p : Prop} {b : Bool} (h : b = true ↔ p) : b = tB p := by
  cases b with
  | true => exact (tB_iff.mpr (h.mp rfl)).symm
  | false =>
    cases q : tB p with
    | false => rfl
    | true => exact absurd (h.mpr (tB_iff.mp q)) (by simp)
theorem tB_not (p : Prop) : (!tB p) = tB (¬ p) := tB_eq (by
  cases q : tB p with
  | true => simp [tB_iff.mp q]
  | false => simp; intro h; rw [tB_iff.mpr h] at q; cases q)
theorem tB_and (p q : Prop) : (tB p && tB q) = tB (p ∧ q) := tB_eq (by rw [Bool.and_eq_true, tB_iff, tB_iff])
theorem tB_or (p q : Prop) : (tB p || tB q) = tB (p ∨ q) := tB_eq (by rw [Bool.or_eq_true, tB_iff, tB_iff])
theorem tB_imp (p q : Prop) : (tB q || !tB p) = tB (p → q) := by
  rw [tB_not, tB_or]
  refine tB_eq ?_
  rw [tB_iff]
  constructor
  · rintro (h | h) g
    · exact h
    · exact absurd g h
  · intro h
    exact (Classical.em p).elim (fun g => .inl (h g)) .inr
noncomputable def stepRun (v : Val) : Step → List Bool → Option (List Bool)
  | .less a b, A => some (A ++ [tB (a.of_ v < b.of_ v)])
  | .same a b, A => some (A ++ [tB (a.of_ v = b.of_ v)])
  | .rest a m r, A => some (A ++ [tB (a.of_ v % m = r)])
  | .nt, A => match A.reverse with
    | x :: R => some (R.reverse ++ [!x])
    | [] => none
  | .jn o, A => match A.reverse with
    | y :: x :: R => some (R.reverse ++ [if o = 38 then x && y else if o = 124 then x || y else if o = 62 then y || !x else !decide (x = y)])
    | _ => none
  | .bd q u t, A => some (A ++ [tB (SemB q u t v)])
noncomputable def runS (v : Val) : List Step → List Bool → Option (List Bool)
  | [], A => some A
  | s :: r, A => (stepRun v s A).bind (runS v r)
theorem runS_append (v : Val) : ∀ (l m : List Step) (A : List Bool), runS v (l ++ m) A = (runS v l A).bind (runS v m)
  | [], _, _ => rfl
  | s :: l, m, A => by
    rw [List.cons_append, runS, runS]
    cases stepRun v s A with
    | none => rfl
    | some B => exact runS_append v l m B
theorem run_code (v : Val) : ∀ (t : T) (A : List Bool), runS v (code t) A = some (A ++ [tB (Sem t v)]) := by
  have two : ∀ (A : List Bool) (x y : Bool), ((A ++ [x]) ++ [y]).reverse = y :: x :: A.reverse := by simp
  intro t
  induction t with
  | less a b => intro A; rfl
  | same a b => intro A; rfl
  | rest a m r => intro A; rfl
  | not t ih =>
    intro A
    rw [code, runS_append, ih, Option.bind_some, runS, stepRun]
    simp only [List.reverse_append, List.reverse_cons, List.reverse_nil, List.nil_append, List.singleton_append, List.reverse_reverse, Option.bind_some, runS]
    rw [tB_not]; rfl
  | and s t ihs iht =>
    intro A
    rw [code, runS_append, ihs, Option.bind_some, runS_append, iht, Option.bind_some, runS, stepRun, two]
    simp only [List.reverse_reverse, Option.bind_some, runS]
    rw [if_pos trivial, tB_and]; rfl
  | or s t ihs iht =>
    intro A
    rw [code, runS_append, ihs, Option.bind_some, runS_append, iht, Option.bind_some, runS, stepRun, two]
    simp only [List.reverse_reverse, Option.bind_some, runS]
    rw [if_neg (by decide), if_pos trivial, tB_or]; rfl
  | then_ s t ihs iht =>
    intro A
    rw [code, runS_append, ihs, Option.bind_some, runS_append, iht, Option.bind_some, runS, stepRun, two]
    simp only [List.reverse_reverse, Option.bind_some, runS]
    rw [if_neg (by decide), if_neg (by decide), if_pos trivial, tB_imp]; rfl
  | all u t ih => intro A; rfl
  | some_ u t ih => intro A; rfl
theorem tB_diff (p q : Prop) : (!decide (tB p = tB q)) = tB (¬ (p ↔ q)) := tB_eq (by
  have h : tB p = tB q ↔ (p ↔ q) := by rw [Bool.eq_iff_iff, tB_iff, tB_iff]
  simp [h])
theorem run_codeU (v : Val) : ∀ (t : U) (A : List Bool), runS v (codeU t) A = some (A ++ [tB (SemU t v)])
  | .of t, A => run_code v t A
  | .diff s t, A => by
    have two : ∀ (A : List Bool) (x y : Bool), ((A ++ [x]) ++ [y]).reverse = y :: x :: A.reverse := by simp
    rw [codeU, runS_append, run_code, Option.bind_some, runS_append, run_code, Option.bind_some, runS, stepRun, two]
    simp only [List.reverse_reverse, Option.bind_some, runS]
    rw [if_neg (by decide), if_neg (by decide), if_neg (by decide), tB_diff]; rfl
  | .ex u b, A => rfl
def olStep (o : Ol) : Step → Ol
  | .less a b => (o.1 ++ [⟨dsl a b, dcn a b, dcn a b⟩], o.2)
  | .same a b => (o.1 ++ [⟨dsl a b, dcn a b, dcn a b⟩], o.2)
  | .rest _ m _ => (o.1, Nat.lcm o.2 m)
  | .nt => o
  | .jn _ => o
  | .bd _ u t => (o.1 ++ (without u (ol t)).1, Nat.lcm o.2 (without u (ol t)).2)
theorem ol_code : ∀ (t : T) (o : Ol), (code t).foldl olStep o = olAcc t o := by
  intro t
  induction t with
  | less a b => intro o; rfl
  | same a b => intro o; rfl
  | rest a m r => intro o; rfl
  | not t ih => intro o; rw [code, List.foldl_append, ih]; rfl
  | and s t ihs iht => intro o; rw [code, List.foldl_append, List.foldl_append, ihs, iht]; rfl
  | or s t ihs iht => intro o; rw [code, List.foldl_append, List.foldl_append, ihs, iht]; rfl
  | then_ s t ihs iht => intro o; rw [code, List.foldl_append, List.foldl_append, ihs, iht]; rfl
  | all u t ih => intro o; rfl
  | some_ u t ih => intro o; rfl
theorem ol_codeU : ∀ (t : U) (o : Ol), (codeU t).foldl olStep o = olAcc t o
  | .of t, o => ol_code t o
  | .diff s t, o => by rw [codeU, List.foldl_append, List.foldl_append, ol_code, ol_code]; rfl
  | .ex u b, o => rfl
theorem wf_atom {l : Bytes} {t : T} {r : Bytes} (h : atom l = some (t, r)) : WF t ∧ depth t = 0 := by
  unfold atom at h
  split at h
  · split at h
    · cases h; exact ⟨trivial, rfl⟩
    · cases h
  · split at h
    · cases h; exact ⟨trivial, rfl⟩
    · cases h
  · split at h
    · split at h
      · rename_i q; cases h; exact ⟨q, rfl⟩
      · cases h
    · cases h
  · cases h
theorem wf_text : ∀ (k : Nat) {l : Bytes} {t : T} {r : Bytes}, text k l = some (t, r) → WF t
  | 0, _, _, _, h => by cases h
  | k + 1, [], _, _, h => by cases h
  | k + 1, c :: l, t, r, h => by
    rw [text_cons] at h
    split at h
    · exact (wf_atom h).1
    · split at h
      · cases hx : text k l with
        | none => rw [hx] at h; cases h
        | some y => rw [hx] at h; cases h; exact wf_text k (t := y.1) (r := y.2) hx
      · split at h
        · split at h
          · rename_i u q
            split at h
            · rename_i j hj
              cases hx : text k q with
              | none => rw [hx] at h; cases h
              | some y =>
                rw [hx] at h; cases h
                have w := wf_text k (t := y.1) (r := y.2) hx
                have := unknown_some hj
                split
                · exact ⟨by omega, w⟩
                · exact ⟨by lia, w⟩
            · cases h
          · cases h
        · split at h
          · split at h
            · rename_i s o q hx
              have w1 := wf_text k hx
              split at h
              · rename_i t' u hy
                have w2 := wf_text k hy
                split at h
                · cases h; exact ⟨w1, w2⟩
                · split at h
                  · cases h; exact ⟨w1, w2⟩
                  · split at h
                    · cases h; exact ⟨w1, w2⟩
                    · cases h
              · cases h
            · cases h
          · cases h
theorem wf_read {b : Bytes} {t : T} (h : Sy15.read b = some t) : WF t := by
  unfold Sy15.read at h
  split at h
  · cases h
  · split at h
    · rename_i hx; cases h; exact wf_text _ hx
    · cases h
end WS
end
section
open Sy15 Sy15Neutral
namespace WS
theorem part_bnd {l : Bytes} {a : Sum} {r : Bytes} (h : part l = some (a, r)) : a.x ≤ 9 ∧ a.y ≤ 9 ∧ a.z ≤ 9 ∧ a.c ≤ 99 ∧ r.length < l.length := by
  have t9 : ∀ k u, k ≤ 9 → (times k u).x ≤ 9 ∧ (times k u).y ≤ 9 ∧ (times k u).z ≤ 9 ∧ (times k u).c ≤ 99 := by
    intro k u hk
    unfold times
    refine ⟨?_, ?_, ?_, ?_⟩
    · show (if u = 0 then k else 0) ≤ 9; split <;> (first | omega | lia)
    · show (if u = 1 then k else 0) ≤ 9; split <;> (first | lia | omega)
    · show (if u = 2 then k else 0) ≤ 9; split <;> (first | lia | omega)
    · show 0 ≤ 99; lia
  match l with
  | [] => simp [part] at h
  | c :: r0 =>
    cases hu : unknown c with
    | some u =>
      simp [part, hu] at h
      obtain ⟨rfl, rfl⟩ := h
      have := t9 1 u (by lia)
      simp; omega
    | none =>
      cases hd : digit c with
      | none => simp [part, hu, hd] at h
      | some k =>
        have hk := digit_some hd
        cases r0 with
        | nil =>
          simp [part, hu, hd] at h
          obtain ⟨rfl, rfl⟩ := h
          simp; lia
        | cons e q =>
          cases hu2 : unknown e with
          | some u =>
            simp [part, hu, hd, hu2] at h
            obtain ⟨_, rfl, rfl⟩ := h
            have := t9 k u (by lia)
            simp; lia
          | none =>
            cases hd2 : digit e with
            | some j =>
              have hj := digit_some hd2
              simp [part, hu, hd, hu2, hd2] at h
              obtain ⟨_, rfl, rfl⟩ := h
              simp; lia
            | none =>
              simp [part, hu, hd, hu2, hd2] at h
              obtain ⟨rfl, rfl⟩ := h
              simp; lia
theorem sum_bnd : ∀ (k : Nat) {l : Bytes} {a : Sum} {r : Bytes}, sum k l = some (a, r) →
    a.x + 9 * r.length ≤ 9 * l.length ∧ a.y + 9 * r.length ≤ 9 * l.length ∧ a.z + 9 * r.length ≤ 9 * l.length ∧ a.c + 99 * r.length ≤ 99 * l.length ∧ r.length < l.length
  | 0, _, _, _, h => by cases h
  | k + 1, l, a, r, h => by
    rw [sum] at h
    split at h
    · cases h
    · rename_i a1 r1 hp
      have p := part_bnd hp
      cases hs : sum k r1 with
      | none => rw [hs] at h; cases h
      | some y =>
        obtain ⟨b, q⟩ := y
        rw [hs] at h
        simp only [Option.map_some] at h
        cases h
        have ih := sum_bnd k hs
        simp only [Sum.add]
        simp at p
        lia
    · rename_i a1 r1 _ hp
      cases h
      have p := part_bnd hp
      lia
def Big (n : Nat) (t : T) : Prop := ∀ x ∈ brackets t, (x.1.x ≤ 9 * n ∧ x.1.y ≤ 9 * n ∧ x.1.z ≤ 9 * n ∧ x.1.c ≤ 99 * n) ∧ (x.2.1.x ≤ 9 * n ∧ x.2.1.y ≤ 9 * n ∧ x.2.1.z ≤ 9 * n ∧ x.2.1.c ≤ 99 * n) ∧ x.2.2 ≤ 9
theorem Big.mono {m n : Nat} {t : T} (h : Big m t) (hm : m ≤ n) : Big n t := fun x hx => by
  have := h x hx
  lia
theorem Big.append {n : Nat} {s t : T} (h : Big n s) (g : Big n t) : ∀ x ∈ brackets s ++ brackets t, (x.1.x ≤ 9 * n ∧ x.1.y ≤ 9 * n ∧ x.1.z ≤ 9 * n ∧ x.1.c ≤ 99 * n) ∧ (x.2.1.x ≤ 9 * n ∧ x.2.1.y ≤ 9 * n ∧ x.2.1.z ≤ 9 * n ∧ x.2.1.c ≤ 99 * n) ∧ x.2.2 ≤ 9 := fun x hx =>
  (List.mem_append.mp hx).elim (h x) (g x)
theorem atom_bnd {l : Bytes} {t : T} {r : Bytes} (h : atom l = some (t, r)) : Big l.length t ∧ (brackets t).length + r.length ≤ l.length := by
  unfold atom at h
  split at h
  · rename_i a r1 hs
    have s1 := sum_bnd _ hs
    split at h
    · rename_i b q hs2
      have s2 := sum_bnd _ hs2
      cases h
      simp only [Big, brackets, List.mem_singleton, forall_eq, List.length_singleton]
      simp at s1 s2
      lia
    · cases h
  · rename_i a r1 hs
    have s1 := sum_bnd _ hs
    split at h
    · rename_i b q hs2
      have s2 := sum_bnd _ hs2
      cases h
      simp only [Big, brackets, List.mem_singleton, forall_eq, List.length_singleton]
      simp at s1 s2
      lia
    · cases h
  · rename_i a m r1 q hs
    have s1 := sum_bnd _ hs
    split at h
    · rename_i i j hi hj
      split at h
      · cases h
        have := digit_some hi
        simp only [Big, brackets, List.mem_singleton, forall_eq, List.length_singleton]
        simp at s1
        lia
      · cases h
    · cases h
  · cases h
theorem atom_one {l : Bytes} {t : T} {r : Bytes} (h : atom l = some (t, r)) : (brackets t).length = 1 := by
  unfold atom at h
  split at h
  · split at h <;> cases h
    rfl
  · split at h <;> cases h
    rfl
  · split at h
    · split at h <;> cases h
      rfl
    · cases h
  · cases h
theorem text_bnd : ∀ (k : Nat) {l : Bytes} {t : T} {r : Bytes}, text k l = some (t, r) → Big l.length t ∧ 2 * (brackets t).length + r.length ≤ l.length
  | 0, _, _, _, h => by cases h
  | k + 1, [], _, _, h => by cases h
  | k + 1, c :: l, t, r, h => by
    rw [text_cons] at h
    split at h
    · have a := atom_bnd h
      have w := atom_one h
      exact ⟨a.1.mono (by simp), by simp; lia⟩
    · split at h
      · cases hx : text k l with
        | none => rw [hx] at h; cases h
        | some y =>
          rw [hx] at h; cases h
          have a := text_bnd k (t := y.1) (r := y.2) hx
          exact ⟨a.1.mono (by simp), by simp [brackets]; lia⟩
      · split at h
        · split at h
          · rename_i u q
            split at h
            · cases hx : text k q with
              | none => rw [hx] at h; cases h
              | some y =>
                rw [hx] at h; cases h
                have a := text_bnd k (t := y.1) (r := y.2) hx
                have b : Big (c :: u :: q).length y.1 := a.1.mono (by simp; lia)
                split
                · exact ⟨b, by simp [brackets]; lia⟩
                · exact ⟨b, by simp [brackets]; lia⟩
            · cases h
          · cases h
        · split at h
          · split at h
            · rename_i s o q hx
              have a := text_bnd k hx
              split at h
              · rename_i t' u hy
                have b := text_bnd k hy
                have a1 : Big (c :: l).length s := a.1.mono (by simp)
                have l1 := text_len k hx
                have b1 : Big (c :: l).length t' := b.1.mono (by simp at l1 ⊢; lia)
                have a2 := a.2
                have b2 := b.2
                simp at a2 b2
                have ab := a1.append b1
                split at h
                · cases h; exact ⟨ab, by simp [brackets]; lia⟩
                · split at h
                  · cases h; exact ⟨ab, by simp [brackets]; lia⟩
                  · split at h
                    · cases h; exact ⟨ab, by simp [brackets]; lia⟩
                    · cases h
              · cases h
            · cases h
          · cases h
theorem read_bnd {b : Bytes} {t : T} (hl : b.length ≤ 64) (h : Sy15.read b = some t) : Big 64 t ∧ (brackets t).length ≤ 32 := by
  unfold Sy15.read at h
  split at h
  · cases h
  · split at h
    · rename_i hx
      cases h
      have a := text_bnd _ hx
      exact ⟨a.1.mono hl, by lia⟩
    · cases h
def V3.le (s : V3) (S : Int) : Prop := (-S ≤ s.x ∧ s.x ≤ S) ∧ (-S ≤ s.y ∧ s.y ≤ S) ∧ (-S ≤ s.z ∧ s.z ≤ S)
theorem V3.le_get {s : V3} {S : Int} (h : s.le S) (u : Nat) : -S ≤ s.get u ∧ s.get u ≤ S := by
  unfold V3.get
  unfold V3.le at h
  split
  · omega
  · split <;> lia
structure BandB (S C : Int) (b : Band) : Prop where
  s : b.s.le S
  lo : -C ≤ b.lo ∧ b.lo ≤ C
  hi : -C ≤ b.hi ∧ b.hi ≤ C
structure OlB (S C : Int) (D N : Nat) (o : Ol) : Prop where
  band : ∀ b ∈ o.1, BandB S C b
  per : o.2 ∣ D
  len : o.1.length ≤ N
theorem OlB.mono {S C S' C' : Int} {D D' N N' : Nat} {o : Ol} (h : OlB S C D N o) (hS : S ≤ S') (hC : C ≤ C') (hD : D ∣ D') (hN : N ≤ N') : OlB S' C' D' N' o :=
  ⟨fun b hb => by
    have q := h.band b hb
    obtain ⟨⟨a1, a2, a3⟩, a4, a5⟩ := q
    exact ⟨⟨by lia, by lia, by lia⟩, by lia, by lia⟩, Nat.dvd_trans h.per hD, Nat.le_trans h.len hN⟩
theorem BandB.rising {S C : Int} {b : Band} (h : BandB S C b) (u : Nat) : BandB S C (rising u b) := by
  obtain ⟨⟨a1, a2, a3⟩, a4, a5⟩ := h
  unfold WS.rising
  split
  · exact ⟨⟨a1, a2, a3⟩, a4, a5⟩
  · exact ⟨⟨by show -S ≤ -b.s.x ∧ -b.s.x ≤ S; lia, by show -S ≤ -b.s.y ∧ -b.s.y ≤ S; (clear a3 a1 a5 a4 C; lia), by show -S ≤ -b.s.z ∧ -b.s.z ≤ S; (clear a2 a1 a5 a4 C; lia)⟩, by show -C ≤ -b.hi ∧ -b.hi ≤ C; (clear a3 a2 a1 a4 S; lia), by show -C ≤ -b.lo ∧ -b.lo ≤ C; lia⟩
theorem unit_le (u : Nat) : (V3.unit u).le 1 := by
  unfold V3.unit V3.le
  refine ⟨?_, ?_, ?_⟩
  · show -1 ≤ (if 0 = u then (1 : Int) else 0) ∧ (if 0 = u then (1 : Int) else 0) ≤ 1; split <;> lia
  · show -1 ≤ (if 1 = u then (1 : Int) else 0) ∧ (if 1 = u then (1 : Int) else 0) ≤ 1; split <;> lia
  · show -1 ≤ (if 2 = u then (1 : Int) else 0) ∧ (if 2 = u then (1 : Int) else 0) ≤ 1; split <;> lia
theorem turning_B {S C : Int} {bs : List Band} (hS : 1 ≤ S) (hC : 0 ≤ C) (h : ∀ b ∈ bs, BandB S C b) (u : Nat) : ∀ b ∈ turning u bs, BandB S C b := by
  intro b hb
  unfold turning at hb
  rcases List.mem_append.mp hb with q | q
  · obtain ⟨x, hx, rfl⟩ := List.mem_map.mp q
    exact (h x (List.mem_filter.mp hx).1).rising u
  · simp at q
    subst q
    have := unit_le u
    obtain ⟨a1, a2, a3⟩ := this
    exact ⟨⟨by show -S ≤ (V3.unit u).x ∧ (V3.unit u).x ≤ S; lia, by show -S ≤ (V3.unit u).y ∧ (V3.unit u).y ≤ S; lia, by show -S ≤ (V3.unit u).z ∧ (V3.unit u).z ≤ S; lia⟩, by simp; omega, by simp; omega⟩
theorem turning_len (u : Nat) (bs : List Band) : (turning u bs).length ≤ bs.length + 1 := by
  unfold turning
  rw [List.length_append, List.length_map]
  have := List.length_filter_le (fun b : Band => decide (b.s.get u ≠ 0)) bs
  rw [List.length_singleton]
  lia
theorem mul_bnd {a b A B : Int} (ha : -A ≤ a ∧ a ≤ A) (hb : -B ≤ b ∧ b ≤ B) : -(A * B) ≤ a * b ∧ a * b ≤ A * B := by
  have h1 : (a * b).natAbs = a.natAbs * b.natAbs := Int.natAbs_mul a b
  have h2 : a.natAbs * b.natAbs ≤ A.toNat * B.toNat := Nat.mul_le_mul (by lia) (by lia)
  have h3 : ((A.toNat * B.toNat : Nat) : Int) = A * B := by
    rw [Int.natCast_mul, Int.toNat_of_nonneg (by lia), Int.toNat_of_nonneg (by lia)]
  (clear hb ha; omega)
theorem scale_le {u : Nat} {S : Int} {D : Nat} : ∀ (ts : List Band) (a : Nat), a ∣ D → (∀ b ∈ ts, (b.s.get u).toNat ∣ D) → ts.foldl (fun k b => Nat.lcm k (b.s.get u).toNat) a ∣ D
  | [], _, h, _ => h
  | y :: l, a, h, hl => by
    rw [List.foldl_cons]
    exact scale_le (S := S) l _ (Nat.lcm_dvd h (hl y (by simp))) fun x hx => hl x (by simp [hx])
theorem scale6 {u : Nat} (hu : u < 3) {bs : List Band} {C : Int} (hC : 0 ≤ C) (h : ∀ b ∈ bs, BandB 3 C b) : scaleOf u (turning u bs) ∣ 6 :=
  scale_le (S := 3) _ 1 ⟨6, rfl⟩ fun b hb => by
    have p := turning_pos hu b hb
    have q := V3.le_get (turning_B (by decide) hC h u b hb).s u
    have : (b.s.get u).toNat = 1 ∨ (b.s.get u).toNat = 2 ∨ (b.s.get u).toNat = 3 := by lia
    rcases this with e | e | e <;> rw [e] <;> decide
theorem putIn_B {u : Nat} {C : Int} {sc per : Nat} {st b : Band} (hsc : sc ≤ 6) (hper : per ≤ 72) (hst : BandB 3 C st) (hb : BandB 3 C b) (hC : 0 ≤ C) (p : 0 < st.s.get u) :
    BandB 72 (24 * C + 216) (putIn u sc per st b) ∧ (-18 ≤ b.s.get u * ((sc : Int) / st.s.get u) ∧ b.s.get u * ((sc : Int) / st.s.get u) ≤ 18) := by
  have q1 := V3.le_get hb.s u
  have q2 : 0 ≤ (sc : Int) / st.s.get u ∧ (sc : Int) / st.s.get u ≤ 6 := by
    refine ⟨Int.ediv_nonneg (by lia) (by lia), ?_⟩
    have := Int.ediv_le_self (a := (sc : Int)) (b := st.s.get u) (by lia)
    lia
  have t := mul_bnd (a := b.s.get u) (b := (sc : Int) / st.s.get u) (A := 3) (B := 6) q1 (by lia)
  refine ⟨?_, by lia⟩
  have cmb : ∀ {p q : Int}, (-3 ≤ p ∧ p ≤ 3) → (-3 ≤ q ∧ q ≤ 3) → -72 ≤ (sc : Int) * p - b.s.get u * ((sc : Int) / st.s.get u) * q ∧ (sc : Int) * p - b.s.get u * ((sc : Int) / st.s.get u) * q ≤ 72 := by
    intro p q hp hq
    have a1 := mul_bnd (a := (sc : Int)) (A := 6) (by lia) hp
    have a2 := mul_bnd (A := 18) (B := 3) (by lia : -18 ≤ b.s.get u * ((sc : Int) / st.s.get u) ∧ b.s.get u * ((sc : Int) / st.s.get u) ≤ 18) hq
    lia
  have cn : ∀ {p q : Int}, (-C ≤ p ∧ p ≤ C) → (-C ≤ q ∧ q ≤ C) → -(24 * C) ≤ (sc : Int) * p - b.s.get u * ((sc : Int) / st.s.get u) * q ∧ (sc : Int) * p - b.s.get u * ((sc : Int) / st.s.get u) * q ≤ 24 * C := by
    intro p q hp hq
    have a1 := mul_bnd (a := (sc : Int)) (A := 6) (by lia) hp
    have a2 := mul_bnd (A := 18) (B := C) (by lia : -18 ≤ b.s.get u * ((sc : Int) / st.s.get u) ∧ b.s.get u * ((sc : Int) / st.s.get u) ≤ 18) hq
    lia
  obtain ⟨⟨b1, b2, b3⟩, b4, b5⟩ := hb
  obtain ⟨⟨s1, s2, s3⟩, s4, s5⟩ := hst
  have sp := mul_bnd (a := b.s.get u) (b := (per : Int)) (A := 3) (B := 72) q1 (by lia)
  have n1 := cn b4 s5
  have n2 := cn b5 s4
  exact ⟨⟨cmb b1 s1, cmb b2 s2, cmb b3 s3⟩, by show _ ≤ (sc : Int) * b.lo - b.s.get u * ((sc : Int) / st.s.get u) * st.hi ∧ (sc : Int) * b.lo - b.s.get u * ((sc : Int) / st.s.get u) * st.hi ≤ _; (clear n2 sp s3 s2 s1 s5 s4 b3 b2 b1 b5 b4 cn cmb t q2 q1 p hper hsc per; omega),
    by show _ ≤ (sc : Int) * b.hi - b.s.get u * ((sc : Int) / st.s.get u) * st.lo + b.s.get u * (per : Int) ∧ (sc : Int) * b.hi - b.s.get u * ((sc : Int) / st.s.get u) * st.lo + b.s.get u * (per : Int) ≤ _; (clear n1 s3 s2 s1 s5 s4 b3 b2 b1 b5 b4 cn cmb t q2 q1 p hper hsc; omega)⟩
theorem ediv_bnd {a A g : Int} (h : -A ≤ a ∧ a ≤ A) (hg : 0 < g) : -A ≤ a / g ∧ a / g ≤ A := by
  have q := Int.mul_ediv_add_emod a g
  have r := Int.emod_nonneg a (show g ≠ 0 by lia)
  have r2 := Int.emod_lt_of_pos a hg
  constructor
  · rw [Int.le_ediv_iff_mul_le hg]
    have : -A * g ≤ -A * 1 := by
      have := mulL (k := A) (by lia) (show 1 ≤ g by lia)
      grind
    lia
  · by_cases h0 : 0 ≤ a
    · have := Int.ediv_le_self (b := g) h0
      lia
    · have : a / g < 0 := Int.ediv_neg_of_neg_of_pos (by lia) hg
      lia
theorem lowest_B {S C : Int} {b : Band} (h : BandB S C b) (hz : b.s.isZ = false) : BandB S C (lowest b) := by
  obtain ⟨⟨b1, b2, b3⟩, b4, b5⟩ := h
  have g : (0 : Int) < (b.s.gcd : Int) := by have := V3.gcd_pos hz; lia
  have n : -C ≤ -b.hi ∧ -b.hi ≤ C := by (clear g b3 b2 b1 b4 hz S; lia)
  have e := ediv_bnd n g
  exact ⟨⟨ediv_bnd b1 g, ediv_bnd b2 g, ediv_bnd b3 g⟩, ediv_bnd b4 g, by show _ ≤ -((-b.hi) / (b.s.gcd : Int)) ∧ -((-b.hi) / (b.s.gcd : Int)) ≤ _; lia⟩
theorem flat_len {α β : Type} (f : α → List β) (n : Nat) : ∀ (l : List α), (∀ x ∈ l, (f x).length ≤ n) → (l.flatMap f).length ≤ l.length * n
  | [], _ => by simp
  | x :: l, h => by
    rw [List.flatMap_cons, List.length_append, List.length_cons]
    have h1 := h x (by simp)
    have h2 := flat_len f n l fun y hy => h y (by simp [hy])
    rw [Nat.add_mul]; lia
theorem without_B {u : Nat} (hu : u < 3) {o : Ol} {N : Nat} (hN : N ≤ 64) (h : OlB 3 60 12 N o) : OlB 72 1656 72 (68 * N + 1) (without u o) := by
  have ts := turning_B (by decide) (by decide) h.band u
  have tp := turning_pos hu (bs := o.1)
  have s6 := scale6 hu (by decide) h.band
  have s6' := Nat.le_of_dvd (by decide) s6
  have p12 := Nat.le_of_dvd (by decide) h.per
  have per72 : scaleOf u (turning u o.1) * o.2 ≤ 72 := Nat.le_trans (Nat.mul_le_mul s6' p12) (by decide)
  refine ⟨fun b hb => ?_, ?_, ?_⟩
  · unfold without at hb
    obtain ⟨x, hx, rfl⟩ := List.mem_map.mp hb
    obtain ⟨hx, hz⟩ := List.mem_filter.mp hx
    have hz' : x.s.isZ = false := by simpa using hz
    refine lowest_B ?_ hz'
    rcases List.mem_append.mp hx with q | q
    · have := h.band x (List.mem_filter.mp q).1
      obtain ⟨⟨b1, b2, b3⟩, b4, b5⟩ := this
      exact ⟨⟨by lia, by lia, by lia⟩, by lia, by lia⟩
    · obtain ⟨st, hst, q⟩ := List.mem_flatMap.mp q
      obtain ⟨y, hy, rfl⟩ := List.mem_map.mp q
      exact (putIn_B s6' per72 (ts st hst) (ts y hy) (by decide) (tp st hst)).1
  · show scaleOf u (turning u o.1) * o.2 ∣ 72
    exact Nat.mul_dvd_mul s6 h.per
  · have tl := turning_len u o.1
    have hl := h.len
    unfold without
    rw [List.length_map]
    refine Nat.le_trans (List.length_filter_le _ _) ?_
    rw [List.length_append]
    have f1 := List.length_filter_le (fun b : Band => decide (b.s.get u = 0)) o.1
    have f2 := flat_len (fun st => (turning u o.1).map fun b => putIn u (scaleOf u (turning u o.1)) (scaleOf u (turning u o.1) * o.2) st b) (N + 1) (turning u o.1) (fun x _ => by rw [List.length_map]; lia)
    have f3 : (turning u o.1).length * (N + 1) ≤ (N + 1) * (N + 1) := Nat.mul_le_mul_right _ (by lia)
    have f4 : (N + 1) * (N + 1) = N * N + 2 * N + 1 := by grind
    have f5 : N * N ≤ N * 64 := Nat.mul_le_mul_left _ hN
    (clear f4 tl per72 p12 s6' s6 tp ts h hN hu; lia)
def Fit (t : T) : Prop := WF t ∧ Big 64 t ∧ (brackets t).length ≤ 64 ∧ (depth t = 0 ∨ (depth t = 1 ∧ small t = true))
theorem small_mem {t : T} (h : small t = true) : ∀ x ∈ brackets t, (x.1.x ≤ 3 ∧ x.1.y ≤ 3 ∧ x.1.z ≤ 3 ∧ x.1.c ≤ 60) ∧ (x.2.1.x ≤ 3 ∧ x.2.1.y ≤ 3 ∧ x.2.1.z ≤ 3 ∧ x.2.1.c ≤ 60) ∧ x.2.2 ≤ 4 := by
  intro x hx
  unfold small at h
  rw [List.all_eq_true] at h
  have q := h x hx
  simp only [List.all_cons, List.all_nil, Bool.and_true, Bool.and_eq_true, decide_eq_true_eq] at q
  lia
theorem small_left {s t u : T} (e : brackets u = brackets s ++ brackets t) (h : small u = true) : small s = true ∧ small t = true := by
  unfold small at *
  rw [e, List.all_append, Bool.and_eq_true] at h
  exact h
theorem ol_big : ∀ {t : T}, depth t = 0 → WF t → Big 64 t → ∀ (o : Ol) (N : Nat), OlB 576 6336 2520 N o → OlB 576 6336 2520 (N + (brackets t).length) (olAcc t o) := by
  have cl : ∀ (a b : Sum) (o : Ol) (N : Nat), ((a.x ≤ 9 * 64 ∧ a.y ≤ 9 * 64 ∧ a.z ≤ 9 * 64 ∧ a.c ≤ 99 * 64) ∧ (b.x ≤ 9 * 64 ∧ b.y ≤ 9 * 64 ∧ b.z ≤ 9 * 64 ∧ b.c ≤ 99 * 64)) → OlB 576 6336 2520 N o → OlB 576 6336 2520 (N + 1) (o.1 ++ [⟨dsl a b, dcn a b, dcn a b⟩], o.2) := by
    intro a b o N h g
    refine ⟨fun x hx => ?_, g.per, by simp; exact g.len⟩
    rcases List.mem_append.mp hx with q | q
    · exact g.band x q
    · simp at q
      subst q
      refine ⟨⟨?_, ?_, ?_⟩, ?_, ?_⟩ <;> simp only [dsl, dcn] <;> lia
  intro t
  induction t with
  | less a b => intro _ _ hb o N g; have := hb (a, b, 0) (by simp [brackets]); exact cl a b o N ⟨this.1, this.2.1⟩ g
  | same a b => intro _ _ hb o N g; have := hb (a, b, 0) (by simp [brackets]); exact cl a b o N ⟨this.1, this.2.1⟩ g
  | rest a m r =>
    intro _ wf hb o N g
    have := hb (a, ⟨0, 0, 0, 0⟩, m) (by simp [brackets])
    have hm : m ≤ 9 := this.2.2
    simp only [WF] at wf
    have d : m ∣ 2520 := by
      have : m = 2 ∨ m = 3 ∨ m = 4 ∨ m = 5 ∨ m = 6 ∨ m = 7 ∨ m = 8 ∨ m = 9 := by lia
      rcases this with rfl | rfl | rfl | rfl | rfl | rfl | rfl | rfl <;> decide
    exact ⟨g.band, Nat.lcm_dvd g.per d, Nat.le_trans g.len (by lia)⟩
  | not t ih => intro hd wf hb o N g; exact ih hd wf hb o N g
  | and s t ihs iht =>
    intro hd wf hb o N g
    simp only [depth] at hd
    have q := iht (by (clear g N o hb wf iht ihs cl; lia)) wf.2 (fun x hx => hb x (by simp [brackets, hx])) _ _ (ihs (by (clear g N o hb wf iht ihs cl; lia)) wf.1 (fun x hx => hb x (by simp [brackets, hx])) o N g)
    simp only [brackets, List.length_append]
    exact q.mono (Int.le_refl _) (Int.le_refl _) (Nat.dvd_refl _) (by lia)
  | or s t ihs iht =>
    intro hd wf hb o N g
    simp only [depth] at hd
    have q := iht (by lia) wf.2 (fun x hx => hb x (by simp [brackets, hx])) _ _ (ihs (by lia) wf.1 (fun x hx => hb x (by simp [brackets, hx])) o N g)
    simp only [brackets, List.length_append]
    exact q.mono (Int.le_refl _) (Int.le_refl _) (Nat.dvd_refl _) (by lia)
  | then_ s t ihs iht =>
    intro hd wf hb o N g
    simp only [depth] at hd
    have q := iht (by lia) wf.2 (fun x hx => hb x (by simp [brackets, hx])) _ _ (ihs (by lia) wf.1 (fun x hx => hb x (by simp [brackets, hx])) o N g)
    simp only [brackets, List.length_append]
    exact q.mono (Int.le_refl _) (Int.le_refl _) (Nat.dvd_refl _) (by lia)
  | all u t ih => intro hd; simp [depth] at hd
  | some_ u t ih => intro hd; simp [depth] at hd
theorem ol_small : ∀ {t : T}, depth t = 0 → WF t → small t = true → ∀ (o : Ol) (N : Nat), OlB 3 60 12 N o → OlB 3 60 12 (N + (brackets t).length) (olAcc t o) := by
  have cl : ∀ (a b : Sum) (o : Ol) (N : Nat), ((a.x ≤ 3 ∧ a.y ≤ 3 ∧ a.z ≤ 3 ∧ a.c ≤ 60) ∧ (b.x ≤ 3 ∧ b.y ≤ 3 ∧ b.z ≤ 3 ∧ b.c ≤ 60)) → OlB 3 60 12 N o → OlB 3 60 12 (N + 1) (o.1 ++ [⟨dsl a b, dcn a b, dcn a b⟩], o.2) := by
    intro a b o N h g
    refine ⟨fun x hx => ?_, g.per, by simp; exact g.len⟩
    rcases List.mem_append.mp hx with q | q
    · exact g.band x q
    · simp at q
      subst q
      refine ⟨⟨?_, ?_, ?_⟩, ?_, ?_⟩ <;> simp only [dsl, dcn] <;> lia
  intro t
  induction t with
  | less a b => intro _ _ hs o N g; have := small_mem hs (a, b, 0) (by simp [brackets]); exact cl a b o N ⟨this.1, this.2.1⟩ g
  | same a b => intro _ _ hs o N g; have := small_mem hs (a, b, 0) (by simp [brackets]); exact cl a b o N ⟨this.1, this.2.1⟩ g
  | rest a m r =>
    intro _ wf hs o N g
    have := small_mem hs (a, ⟨0, 0, 0, 0⟩, m) (by simp [brackets])
    have hm : m ≤ 4 := this.2.2
    simp only [WF] at wf
    have d : m ∣ 12 := by
      have : m = 2 ∨ m = 3 ∨ m = 4 := by lia
      rcases this with rfl | rfl | rfl <;> decide
    exact ⟨g.band, Nat.lcm_dvd g.per d, Nat.le_trans g.len (by lia)⟩
  | not t ih => intro hd wf hs o N g; exact ih hd wf hs o N g
  | and s t ihs iht =>
    intro hd wf hs o N g
    simp only [depth] at hd
    have sl := small_left rfl hs
    have q := iht (by (clear sl g N o hs wf iht ihs cl; lia)) wf.2 sl.2 _ _ (ihs (by (clear sl g N o hs wf iht ihs cl; lia)) wf.1 sl.1 o N g)
    simp only [brackets, List.length_append]
    exact q.mono (Int.le_refl _) (Int.le_refl _) (Nat.dvd_refl _) (by lia)
  | or s t ihs iht =>
    intro hd wf hs o N g
    simp only [depth] at hd
    have sl := small_left rfl hs
    have q := iht (by lia) wf.2 sl.2 _ _ (ihs (by lia) wf.1 sl.1 o N g)
    simp only [brackets, List.length_append]
    exact q.mono (Int.le_refl _) (Int.le_refl _) (Nat.dvd_refl _) (by lia)
  | then_ s t ihs iht =>
    intro hd wf hs o N g
    simp only [depth] at hd
    have sl := small_left rfl hs
    have q := iht (by lia) wf.2 sl.2 _ _ (ihs (by lia) wf.1 sl.1 o N g)
    simp only [brackets, List.length_append]
    exact q.mono (Int.le_refl _) (Int.le_refl _) (Nat.dvd_refl _) (by lia)
  | all u t ih => intro hd; simp [depth] at hd
  | some_ u t ih => intro hd; simp [depth] at hd
theorem ol_small0 {t : T} (hd : depth t = 0) (wf : WF t) (hs : small t = true) : OlB 3 60 12 (brackets t).length (ol t) := by
  have := ol_small hd wf hs ([], 1) 0 ⟨by simp, ⟨12, rfl⟩, by simp⟩
  rw [Nat.zero_add] at this
  exact this
theorem ol_deep : ∀ {t : T}, depth t ≤ 1 → WF t → small t = true → (brackets t).length ≤ 64 → ∀ (o : Ol) (N : Nat), OlB 72 1656 72 N o → OlB 72 1656 72 (N + 69 * (brackets t).length) (olAcc t o) := by
  have cl : ∀ (a b : Sum) (o : Ol) (N : Nat), ((a.x ≤ 3 ∧ a.y ≤ 3 ∧ a.z ≤ 3 ∧ a.c ≤ 60) ∧ (b.x ≤ 3 ∧ b.y ≤ 3 ∧ b.z ≤ 3 ∧ b.c ≤ 60)) → OlB 72 1656 72 N o → OlB 72 1656 72 (N + 69 * 1) (o.1 ++ [⟨dsl a b, dcn a b, dcn a b⟩], o.2) := by
    intro a b o N h g
    refine ⟨fun x hx => ?_, g.per, by simp; have := g.len; lia⟩
    rcases List.mem_append.mp hx with q | q
    · exact g.band x q
    · simp at q
      subst q
      refine ⟨⟨?_, ?_, ?_⟩, ?_, ?_⟩ <;> simp only [dsl, dcn] <;> lia
  have nb : ∀ t : T, 1 ≤ (brackets t).length := by
    intro t
    induction t with
    | less a b => simp [brackets]
    | same a b => simp [brackets]
    | rest a m r => simp [brackets]
    | not t ih => exact ih
    | and s t ihs iht => simp only [brackets, List.length_append]; lia
    | or s t ihs iht => simp only [brackets, List.length_append]; lia
    | then_ s t ihs iht => simp only [brackets, List.length_append]; lia
    | all u t ih => exact ih
    | some_ u t ih => exact ih
  have bdr : ∀ (u : Nat) (t : T) (o : Ol) (N : Nat), u < 3 → depth t = 0 → WF t → small t = true → (brackets t).length ≤ 64 → OlB 72 1656 72 N o → OlB 72 1656 72 (N + 69 * (brackets t).length) (o.1 ++ (without u (ol t)).1, Nat.lcm o.2 (without u (ol t)).2) := by
    intro u t o N hu hd wf hs hl g
    have w := without_B hu hl (ol_small0 hd wf hs)
    refine ⟨fun x hx => ?_, Nat.lcm_dvd g.per w.per, ?_⟩
    · rcases List.mem_append.mp hx with q | q
      · exact g.band x q
      · exact w.band x q
    · rw [List.length_append]
      have := g.len
      have := w.len
      have := nb t
      lia
  intro t
  induction t with
  | less a b => intro _ _ hs _ o N g; have := small_mem hs (a, b, 0) (by simp [brackets]); exact cl a b o N ⟨this.1, this.2.1⟩ g
  | same a b => intro _ _ hs _ o N g; have := small_mem hs (a, b, 0) (by simp [brackets]); exact cl a b o N ⟨this.1, this.2.1⟩ g
  | rest a m r =>
    intro _ wf hs _ o N g
    have := small_mem hs (a, ⟨0, 0, 0, 0⟩, m) (by simp [brackets])
    have hm : m ≤ 4 := this.2.2
    simp only [WF] at wf
    have d : m ∣ 72 := by
      have : m = 2 ∨ m = 3 ∨ m = 4 := by lia
      rcases this with rfl | rfl | rfl <;> decide
    exact ⟨g.band, Nat.lcm_dvd g.per d, Nat.le_trans g.len (by lia)⟩
  | not t ih => intro hd wf hs hl o N g; exact ih hd wf hs hl o N g
  | and s t ihs iht =>
    intro hd wf hs hl o N g
    simp only [depth] at hd
    simp only [brackets, List.length_append] at hl
    have sl := small_left rfl hs
    have q := iht (by lia) wf.2 sl.2 (by lia) _ _ (ihs (by lia) wf.1 sl.1 (by lia) o N g)
    simp only [brackets, List.length_append]
    exact q.mono (Int.le_refl _) (Int.le_refl _) (Nat.dvd_refl _) (by lia)
  | or s t ihs iht =>
    intro hd wf hs hl o N g
    simp only [depth] at hd
    simp only [brackets, List.length_append] at hl
    have sl := small_left rfl hs
    have q := iht (by lia) wf.2 sl.2 (by lia) _ _ (ihs (by lia) wf.1 sl.1 (by lia) o N g)
    simp only [brackets, List.length_append]
    exact q.mono (Int.le_refl _) (Int.le_refl _) (Nat.dvd_refl _) (by lia)
  | then_ s t ihs iht =>
    intro hd wf hs hl o N g
    simp only [depth] at hd
    simp only [brackets, List.length_append] at hl
    have sl := small_left rfl hs
    have q := iht (by lia) wf.2 sl.2 (by lia) _ _ (ihs (by lia) wf.1 sl.1 (by lia) o N g)
    simp only [brackets, List.length_append]
    exact q.mono (Int.le_refl _) (Int.le_refl _) (Nat.dvd_refl _) (by lia)
  | all u t ih => intro hd wf hs hl o N g; simp only [depth] at hd; exact bdr u t o N wf.1 (by lia) wf.2 hs hl g
  | some_ u t ih => intro hd wf hs hl o N g; simp only [depth] at hd; exact bdr u t o N wf.1 (by lia) wf.2 hs hl g
structure OlFit (o : Ol) : Prop where
  band : ∀ b ∈ o.1, BandB 576 6336 b
  pos : 0 < o.2
  per : o.2 ≤ 2520
  len : o.1.length ≤ 4480
theorem fit_ol {t : T} (h : Fit t) : OlFit (ol t) := by
  obtain ⟨wf, hb, hl, hd⟩ := h
  have pos := (ol_sound wf ([], 1) (by decide)).1
  rcases hd with hd | ⟨hd, hs⟩
  · have q := ol_big hd wf hb ([], 1) 0 ⟨by simp, ⟨2520, rfl⟩, by simp⟩
    exact ⟨q.band, pos, Nat.le_of_dvd (by decide) q.per, by have := q.len; unfold ol; lia⟩
  · have q := ol_deep (by lia) wf hs hl ([], 1) 0 ⟨by simp, ⟨72, rfl⟩, by simp⟩
    have q' := q.mono (S' := 576) (C' := 6336) (D' := 72) (N' := 4480) (by decide) (by decide) (Nat.dvd_refl _) (by lia)
    exact ⟨q'.band, pos, Nat.le_trans (Nat.le_of_dvd (by decide) q'.per) (by decide), q'.len⟩
end WS
end
section
set_option Elab.async false
set_option linter.all false
set_option maxRecDepth 100000
set_option maxHeartbeats 2000000
namespace L2
open PySem PySem.Spec PyProof.Rows
theorem ObjOk.get {P : Program} {w : World} {H : Hp} {h : Heap} {a : Addr} {o : HO} (x : ObjOk P w H h a o) : ∃ ob, h.get? a = some ob := by
  cases o with
  | lst xs => obtain ⟨_, _, _, _, e⟩ := x; exact ⟨_, e⟩
  | tup xs => obtain ⟨_, _, _, ob, e, _⟩ := x; exact ⟨_, e⟩
  | dK kvs => obtain ⟨_, _, _, _, ob, _, _, e, _⟩ := x; exact ⟨_, e⟩
  | dT kvs => obtain ⟨_, _, _, _, ob, _, _, e, _⟩ := x; exact ⟨_, e⟩
  | set S n => obtain ⟨ob, _, _, _, e, _⟩ := x; exact ⟨_, e⟩
  | ins C dx fs => obtain ⟨_, _, _, e, _⟩ := x; exact ⟨_, e⟩
  | own y => exact x
  | xd fs => obtain ⟨_, ⟨_, _, _, e, _⟩, _⟩ := x; exact ⟨_, e⟩
  | rng lo hi => obtain ⟨_, _, _, e⟩ := x; exact ⟨_, e⟩
  | frz ob u => obtain ⟨e, _⟩ := x; exact ⟨_, e⟩
  | tbl ps => exact ⟨_, (show h.get? a = some _ from x)⟩
  | met f y => exact ⟨_, (show h.get? a = some _ from x)⟩
  | ext φ => obtain ⟨_, e, _⟩ := x; exact e
def CXN (P : Program) (w : World) (C : Addr) : CXT := fun outer H s E e s' =>
  ∃ (a : Addr) (t : Value) (B : Heap) (H' : Hp), e = .ref a ∧ s'.os = s.os ∧ AllBare s'.gens ∧ Un (frs outer) [] H H' s.heap s'.heap ∧ HOk P w H' s'.heap ∧
    Heap.FlyingW B outer a (.ref C) t s'.heap ∧ (∀ b o, s.heap.get? b = some o → b ∉ frs outer → ∃ o', B.get? b = some o') ∧ (∀ b u, H' b = some u → ∃ o', B.get? b = some o') ∧ E (.ref C) none H'
theorem un_fly {l : List Env} {H H' : Hp} {h1 h2 h3 B : Heap} (un : Un (frs l) [] H H' h1 h2) (old : ∀ b o, h1.get? b = some o → b ∉ frs l → ∃ o', B.get? b = some o')
    (st : B.StaysIn h2) (st' : B.StaysIn h3) (up : h2.UpToSlots h3) (ff : h2.FunFrames B l) : Un (frs l) [] H H' h1 h3 := by
  have nofr : ∀ b o, b ∉ frs l → h1.get? b = some o → ∀ o2, h2.get? b = some o2 → h3.get? b = some o2 := fun b o hb q o2 q2 => by
    obtain ⟨o', e⟩ := old b o q hb
    have e2 := st b o' e
    rw [q2] at e2
    cases e2
    exact st' b o2 e
  have isfr : ∀ b, b ∈ frs l → ∀ o2, h2.get? b = some o2 → ∃ sl, h3.get? b = some { o2 with slots := sl } := fun b hb o2 q2 => by
    obtain ⟨_, o, ho, hd⟩ := ff.mem hb
    rw [q2] at ho
    cases ho
    exact up b o2 q2 hd
  refine ⟨fun b o q n hb hx => nofr b o hb q o (un.keep b o q n hb hx), fun b o q n hb hx => ?_, un.free, fun b o q hx => ?_, un.tups, un.frzs, un.tbls⟩
  · obtain ⟨sl, e⟩ := un.slot b o q n hb hx
    obtain ⟨sl2, e2⟩ := isfr b hb _ e
    exact ⟨sl2, e2⟩
  · obtain ⟨o2, e⟩ := un.there b o q hx
    by_cases hb : b ∈ frs l
    · obtain ⟨sl, e2⟩ := isfr b hb _ e
      exact ⟨_, e2⟩
    · exact ⟨o2, nofr b o hb q o2 e⟩
theorem hok_fly {P : Program} {w : World} {H : Hp} {h2 h3 B : Heap} (hok : HOk P w H h2) (trk : ∀ b u, H b = some u → ∃ o', B.get? b = some o') (st : B.StaysIn h2) (st' : B.StaysIn h3) : HOk P w H h3 := fun b u e =>
  (hok b u e).stay (fun c v hc q => by
    have hc' : ∃ u', H c = some u' := hc.elim (fun z => ⟨u, by rw [z]; exact e⟩) fun z => ⟨_, z⟩
    obtain ⟨u', e'⟩ := hc'
    obtain ⟨o', e2⟩ := trk c u' e'
    have e3 := st c o' e2
    rw [q] at e3
    cases e3
    exact st' c v e2) (fun _ q => q) fun _ _ q => q
section
variable {P : Program} {w : World} {K : PySem.W.Frag} {mg : Str → Option Value} {base : Heap} {N : List Str} {qual : Str} {scope : Scope} {f : Addr} {cd : Value} {A : Around} {outer : List Env} {s0 : Shared} {H0 : Hp} {E : XK} {C : Addr}
theorem passN : Passes (CXN P w C) (cxOf (CXN P w C) P w K mg base N qual scope f cd A outer s0 H0 E) E := by
  intro pins σ H s e s' I h
  obtain ⟨a, t, B, H', rfl, os, bare, un, hok, fl, old, trk, hE⟩ := h
  have I' : Inv (cxOf (CXN P w C) P w K mg base N qual scope f cd A outer s0 H0 E) pins σ H' s' := I.call' os un hok bare (ch := []) fun b z => absurd z (by simp)
  have old' : ∀ b o, s0.heap.get? b = some o → b ∉ frs outer → ∃ o', B.get? b = some o' := fun b o q hb => by
    obtain ⟨o1, e1⟩ := I.base.there b o q (by intro z; exact absurd (show b ∈ ([] : List Addr) from z) (by simp))
    refine old b o1 e1 fun z => ?_
    rcases List.mem_cons.mp (I.stkSub b z) with z | z
    · have := Nat.lt_of_lt_of_le (Heap.lt_size q) I.ok.above
      rw [z] at this
      exact absurd this (Nat.lt_irrefl _)
    · exact hb z
  show wpAny (model P w) (A.deeper (envOfC qual scope s0.heap.objs.size f cd)) (leaving (envOfC qual scope s0.heap.objs.size f cd) (.ref a)) _ _ s'
  refine wpAny_leaves_onW I.ok.frames rfl fl fun h' fl' up => ?_
  exact ⟨a, t, B, H', rfl, I'.os, bare, un_fly (l := outer) I'.base old' fl.1 fl'.1 up (by obtain ⟨_, _, z⟩ := fl.2.2.1; exact z), hok_fly hok trk fl.1 fl'.1, fl', old', trk, hE⟩
end
structure ExcC (K : PySem.W.Frag) (C : Addr) : Prop where
  ex : PySem.W.excIn K C [.type "ValueError", .type "Exception", .type "BaseException", .type "object"] "ValueError.__new__" = true
  bs : PySem.W.ktsIn K C "BaseException" = true
theorem exc_obj {K : PySem.W.Frag} {h : Heap} {C : Addr} (kin : K.In h) (c : ExcC K C) :
    ∃ bm N nm q bs hdct sn sub ab col dd k0 k1 k2 k3 k5 mN, h.get? C = some (excClassObj nm q C N bs bm hdct sn sub ab col dd k0 k1 k2 k3 k5 "ValueError.__new__") ∧ h.Ns N mN ∧ mN "__init__" = none ∧
      OwnTail h [.type "ValueError", .type "Exception", .type "BaseException", .type "object"] bm := by
  have z := c.ex
  unfold PySem.W.excIn at z
  split at z
  · rename_i d1 cd s1 hK
    split at z
    · rename_i C1 bm a0 a1 a2 a3 n1 a5 hm hs
      simp only [Bool.and_eq_true, Bool.not_eq_true', beq_iff_eq] at z
      obtain ⟨⟨⟨⟨⟨z1, z2⟩, z3⟩, z4⟩, z5⟩, z6⟩ := z
      subst z1 z2
      obtain ⟨b1, b2, b3, b4, b5, b6, b7, b8, b9, b10, b11⟩ := cd
      obtain rfl : b3 = .ref C1 :: bm := hm
      obtain rfl : b11 = false := z3
      have hsl : s1 = #[a0, a1, a2, a3, some (.builtin "ValueError.__new__"), a5] := by
        cases s1
        exact congrArg Array.mk hs
      subst hsl
      exact ⟨bm, b4, b1, b5, b2, b6, b7, b8, b9, b10, d1, a0, a1, a2, a3, a5, _, kin _ _ hK, .of_isNs (PySem.W.isNs_of_in kin z5), PySem.W.nsMap_none_of_in kin z5 z6, PySem.W.tail_of_in kin z4⟩
    · exact absurd z (by simp)
  · exact absurd z (by simp)
section
variable {P : Program} {w : World} {K : PySem.W.Frag} {mg : Str → Option Value} {base : Heap} {N : List Str} {qual : Str} {scope : Scope} {f : Addr} {cd : Value} {A : Around} {outer : List Env} {s0 : Shared} {H0 : Hp} {E : XK} {C : Addr}
theorem ps_raiseN {x : Str} {np cpos pos : Pos} (hc : ExcC K C) (hg : Gl (cxOf (CXN P w C) P w K mg base N qual scope f cd A outer s0 H0 E) x) (hm : mg x = some (.ref C)) (hdb : (x == ("__debug__" : Str)) = false := by decide) :
    PS (cxOf (CXN P w C) P w K mg base N qual scope f cd A outer s0 H0 E) (.Raise (some (.Call (.Name x np) [] [] cpos)) none pos) (fun _ _ H => E (.ref C) none H) := by
  intro pins s σ H D I h
  obtain ⟨bm, Na, nm, q, bs, hdct, sn, sub, ab, col, dd, k0, k1, k2, k3, k5, mN, hC, hN, hni, T⟩ := exc_obj I.kIn hc
  refine wpAny_Raise_call_subT (C := C) (nm := nm) (q := q) (N := Na) (bs := bs) (bm := bm) (hdct := hdct) (sn := sn) (sub := sub) (ab := ab) (col := col) (dd := dd) (k0 := k0) (k1 := k1) (k2 := k2) (k3 := k3) (k5 := k5)
    PySem.F.excBase_ValueError (mN := mN) (T.hasType PySem.F.excBase_ValueError.hasBase) (I.ok.hd rfl) rfl hni (ld_glob I hg hm ⟨rfl, ?_⟩ hdb)
  refine evalArgs_empty ⟨rfl, Nat.zero_le _, hC, hN, T, fun h1 e hx => ?_⟩
  have ff := PySem.W.funFrames_hide (as := frs (cxOf (CXN P w C) P w K mg base N qual scope f cd A outer s0 H0 E).stack) I.stack fun env he a ha => List.mem_filterMap.mpr ⟨env, he, ha⟩
  show wpAny (model P w) (A.deeper (envOfC qual scope s0.heap.objs.size f cd)) (leaving (envOfC qual scope s0.heap.objs.size f cd) (.ref e)) _ _ { s with heap := h1 }
  refine wpAny_leaves_madeW (s := { s with heap := h1 }) I.ok.frames rfl (fun b o z => PySem.W.of_hideAll _ z) ff hx fun h2 t fl tup hnew up => ?_
  have inB : ∀ b o, s.heap.get? b = some o → b ∉ frs (cxOf (CXN P w C) P w K mg base N qual scope f cd A outer s0 H0 E).stack → (PySem.W.hideAll s.heap (frs (cxOf (CXN P w C) P w K mg base N qual scope f cd A outer s0 H0 E).stack)).get? b = some o :=
    fun b o q hb => PySem.W.hideAll_get _ q hb
  have st1 : (PySem.W.hideAll s.heap (frs (cxOf (CXN P w C) P w K mg base N qual scope f cd A outer s0 H0 E).stack)).StaysIn h1 := fun b o z => hx.keeps b o (PySem.W.of_hideAll _ z)
  have trk : ∀ b u, H b = some u → ∃ o', (PySem.W.hideAll s.heap (frs (cxOf (CXN P w C) P w K mg base N qual scope f cd A outer s0 H0 E).stack)).get? b = some o' := fun b u e1 => by
    have hlt := I.hok.lt e1
    obtain ⟨o1, e2⟩ := (I.hok b u e1).get
    exact ⟨o1, inB b o1 e2 fun z => by rw [I.stkFree b z] at e1; cases e1⟩
  have old : ∀ b o, s0.heap.get? b = some o → b ∉ frs outer → ∃ o', (PySem.W.hideAll s.heap (frs (cxOf (CXN P w C) P w K mg base N qual scope f cd A outer s0 H0 E).stack)).get? b = some o' := fun b o q hb => by
    obtain ⟨o1, e1⟩ := I.base.there b o q (by intro z; exact absurd (show b ∈ ([] : List Addr) from z) (by simp))
    refine ⟨o1, inB b o1 e1 fun z => ?_⟩
    rcases List.mem_cons.mp (I.stkSub b z) with z | z
    · have := Nat.lt_of_lt_of_le (Heap.lt_size q) I.ok.above
      rw [z] at this
      exact absurd this (Nat.lt_irrefl _)
    · exact hb z
  have ff1 : h1.FunFrames (PySem.W.hideAll s.heap (frs (cxOf (CXN P w C) P w K mg base N qual scope f cd A outer s0 H0 E).stack)) outer := by
    obtain ⟨_, _, z⟩ := ff
    exact z.of_keeps fun b o q _ => ⟨o, hx.keeps b o q, rfl⟩
  have I1 : Inv (cxOf (CXN P w C) P w K mg base N qual scope f cd A outer s0 H0 E) pins σ H { s with heap := h1 } := I.kept (t' := s.toks) hx.keeps
  exact ⟨e, _, _, H, rfl, I.os, I.bare, un_fly (l := outer) I1.base old st1 fl.1 up ff1, hok_fly I1.hok trk st1 fl.1, fl, old, trk, h⟩
end
section
variable {X : Cx} {pins pins' : List (Addr × Obj)} {σ : St} {H : Hp} {s : Shared}
abbrev Cx.with (X : Cx) (pn : List (Addr × Obj)) (xe : Value → Shared → Prop) : Cx := { X with pn := pn, xe := xe }
theorem Cx.Ok.with (ok : X.Ok) (pn : List (Addr × Obj)) (xe : Value → Shared → Prop) : (X.with pn xe).Ok :=
  ⟨ok.mod, ok.kind, ok.glob, ok.blt, ok.above, ok.inj, ok.has, ok.cab, ok.hd, ok.frames, ok.stk, ok.exf, ok.bs, ok.bsz, ok.noex, ok.exfs, ok.funs, ok.frf⟩
theorem Inv.with (I : Inv X pins σ H s) (xe : Value → Shared → Prop) : Inv (X.with (X.pn ++ pins) xe) [] σ H s :=
  ⟨I.ok.with _ _, I.os, I.bare, I.base, I.loc, I.cell, I.free, I.freeC, fun p hp => I.pin p (by
    have hp : p ∈ (X.pn ++ pins) ++ [] := hp
    rw [List.append_nil] at hp
    exact hp), I.hok, I.len⟩
theorem Inv.unwith {xe : Value → Shared → Prop} (ok : X.Ok) (I : Inv (X.with (X.pn ++ pins) xe) pins' σ H s) : Inv X pins σ H s :=
  ⟨ok, I.os, I.bare, I.base, I.loc, I.cell, I.free, I.freeC, fun p hp => I.pin p (List.mem_append_left _ hp), I.hok, I.len⟩
abbrev Cx.suite (X : Cx) (e : Addr) : Cx := { X with A := X.A.mark (some (.ref e)), calm := false, xe := fun _ _ => False }
theorem Inv.suite (I : Inv X pins σ H s) (e : Addr) : Inv (X.suite e) pins σ H s :=
  ⟨⟨I.ok.mod, I.ok.kind, I.ok.glob, I.ok.blt, I.ok.above, I.ok.inj, I.ok.has, I.ok.cab, fun z => Bool.noConfusion (show false = true from z), I.ok.frames, I.ok.stk, I.ok.exf, I.ok.bs, I.ok.bsz, I.ok.noex, I.ok.exfs, I.ok.funs, I.ok.frf⟩,
    I.os, I.bare, I.base, I.loc, I.cell, I.free, I.freeC, I.pin, I.hok, I.len⟩
theorem Inv.unsuite {e : Addr} (ok : X.Ok) (I : Inv (X.suite e) pins σ H s) : Inv X pins σ H s :=
  ⟨ok, I.os, I.bare, I.base, I.loc, I.cell, I.free, I.freeC, I.pin, I.hok, I.len⟩
theorem SP.mapI {Y : Cx} {D : Ends} {fl : Flow} (h : SP Y pins' D fl s) (k : ∀ σ H, Inv Y pins' σ H s → Inv X pins σ H s) : SP X pins D fl s := by
  cases fl with
  | next => obtain ⟨a, b, c, d⟩ := h; exact ⟨a, b, k _ _ c, d⟩
  | brk => obtain ⟨a, b, c, d⟩ := h; exact ⟨a, b, k _ _ c, d⟩
  | cont => obtain ⟨a, b, c, d⟩ := h; exact ⟨a, b, k _ _ c, d⟩
  | ret u => obtain ⟨v, a, b, c, d⟩ := h; exact ⟨v, a, b, k _ _ c, d⟩
end
theorem caughtN {X : Cx} {C : Addr} {x : Str} {suite : List Stmt} {b₀ : Stmt} {np hpos : Pos} {u : TS} {pins : List (Addr × Obj)} {σ : St} {H1 : Hp} {D : Ends} {s1 s2 : Shared} {e : Value} (hst : X.stack = X.env :: X.outer) (hfr : X.env.frame = some X.env.locals) (hc : ExcC X.K C) (hg : Gl X x) (hm : X.mg x = some (.ref C))
    (hs : ∀ e : Addr, PSs (X.suite e) (b₀ :: suite) u) (hdb : (x == ("__debug__" : Str)) = false) (J1 : Inv X pins σ H1 s1) (hx : CXN X.prog X.w C X.stack H1 s1 (fun _ _ H' => u D σ H') e s2) :
    wpAny (model X.prog X.w) X.A (noteFrame e X.env) (fun _ s₂ => wpAny (model X.prog X.w) X.A (setFlight e none)
      (fun _ s₃ => wpAny (model X.prog X.w) X.A (handleBy e X.env [.ExceptHandler (some (.Name x np)) none (b₀ :: suite) hpos]) (SP X pins D) X.xe s₃) X.xe s₂) X.xe s2 := by
  obtain ⟨a, t, B, H', rfl, os, bare, un, hok, fl, old, trk, hE⟩ := hx
  have land : ∀ h3 : Heap, B.StaysIn h3 → s2.heap.UpToSlots h3 → Inv X pins σ H' { s2 with heap := h3 } := fun h3 st up =>
    J1.call' (s' := { s2 with heap := h3 }) os (un_fly (l := X.stack) un old fl.1 st up fl.2.2.1) (hok_fly hok trk fl.1 st) bare (ch := []) fun b z => absurd z (by simp)
  have fl0 : Heap.FlyingW B (X.env :: X.outer) a (.ref C) t s2.heap := by rw [← hst]; exact fl
  refine wpAny_looks_onW (by rw [J1.ok.frames, hst]) hfr fl0 fun h4 held up4 => wpAny_landsW (s := { s2 with heap := h4 }) held fun h5 fl5 up5 => ?_
  have up45 := up4.trans up5
  have I5 := land h5 fl5.1 up45
  obtain ⟨ob, hob, hobc⟩ := fl5.there
  obtain ⟨nm, qn, Na, bs, bm, hdct, sn, sub, ab, col, dd, k0, k1, k2, k3, k5, newId, hC, hbase, _⟩ := PySem.W.kts_cls I5.kIn hc.bs
  refine wpAny_handleBy_cons (codeAny_handlers_test (ld_glob (X := X.suite a) (I5.suite a) hg hm ?_ hdb)) (by intro z; cases z)
  refine wpAny_excMatches_sub_self hC hob hobc hbase (codeAny_handlers_suite ?_)
  refine lands_againW (s := { s2 with heap := h5 }) fl5 fun h6 fl6 up6 => ?_
  have I6 := land h6 fl6.1 (up45.trans up6)
  refine wpAny_noRaise ?_
  refine wpAny_mono (hs a pins { s2 with heap := h6 } σ H' D (I6.suite a) hE) (fun f s7 q => ?_) fun _ _ z => z
  exact q.mapI fun σ7 H7 I7 => I7.unsuite J1.ok
theorem run_fn1 {X : Cx} {CX : CXT} {k : Nat} {f : Addr} {fd : FuncData} {ps : List Str} {sp : Sp} {E : XK} {pins : List (Addr × Obj)} {σ : St} {H : Hp} {s : Shared} {Q : VK} {us : List Value} {vs : List V} (F : FnOk X.prog X.w X.K X.mg X.base CX k f fd ps sp) (hr : Room k X.A) (hb : Binds X.K fd ps [])
    (I : Inv X pins σ H s) (hx : ∀ e s', CX X.stack H s E e s' → X.xe e s') (r : Vals vs us) (h : sp (vs ++ []) H Q E) : wpAny (model X.prog X.w) X.A (call (.ref f) us) (EP X pins σ Q) X.xe s := by
  have r2 : Vals (vs ++ []) (us ++ []) := r.append .nil
  have hl : (us ++ []).length = ps.length := by rw [← r2.length]; exact F.len _ _ _ _ h
  refine wpAny_call (codeAny_mono (F.run X.A X.stack s H ⟨us, []⟩ (us ++ []) (vs ++ []) Q E hr I.env0 (hb s us I.kIn hl) r2 h) fun r s' hq => ?_)
  cases r with
  | error e => exact hx e s' hq
  | ok fl =>
    cases fl with
    | ret u => exact I.after hq
    | next => exact False.elim hq
    | brk => exact False.elim hq
    | cont => exact False.elim hq
@[reducible] def tTryM (Cr : Addr) (m : Str) (sp : Sp) (ta : TE) (u : TS) : TS := fun D σ H => tMeth Cr m sp [] (fun _ _ H' => u D σ H') ta tNil σ H fun _ H1 => D.nx σ H1
theorem ps_tryM {X : Cx} {C Cr : Addr} {x m : Str} {suite : List Stmt} {b₀ : Stmt} {o : Expr} {np apos cpos epos hpos pos : Pos} {k : Nat} {f : Addr} {fd : FuncData} {ps : List Str} {sp : Sp} {ta : TE} {u : TS} {pl : Sem Bool} (hst : X.stack = X.env :: X.outer) (hfr : X.env.frame = some X.env.locals) (hc : ExcC X.K C) (hg : Gl X x) (hm : X.mg x = some (.ref C))
    (he : ∀ (pn : List (Addr × Obj)) (xe : Value → Shared → Prop), PE (X.with pn xe) o ta) (c : Cls X.K Cr) (hme : Meth X.K Cr m f) (F : FnOk X.prog X.w X.K X.mg X.base (CXN X.prog X.w C) k f fd ps sp) (hr : Room k X.A) (hb : Binds X.K fd ps [])
    (hs : ∀ e : Addr, PSs (X.suite e) (b₀ :: suite) u)
    (ht : eval (.Call (.Attribute o m apos) [] [] cpos) X.env = (do
      let ov ← eval o X.env
      standAt apos.atName
      let (f, first) ← holding [ov] (getMethod ov m pl)
      callWith cpos f first (backTo cpos (starEach [] X.env)) (backToKw cpos (keywordEach [] X.env))) := by rfl)
    (hsw : swapsWith (.Call (.Attribute o m apos) [] [] cpos) none epos.line X.env = pure false := by rfl) (hdb : (x == ("__debug__" : Str)) = false := by decide) :
    PS X (.Try [.Expr (.Call (.Attribute o m apos) [] [] cpos) epos] [.ExceptHandler (some (.Name x np)) none (b₀ :: suite) hpos] [] [] pos) (tTryM Cr m sp ta u) := by
  intro pins s σ H D I h
  refine wpAny_Try_except ?_
  refine wpAny_mono (pss_one (X := X.with (X.pn ++ pins) fun e s₁ => wpAny (model X.prog X.w) X.A (noteFrame e X.env) (fun _ s₂ => wpAny (model X.prog X.w) X.A (setFlight e none)
      (fun _ s₃ => wpAny (model X.prog X.w) X.A (handleBy e X.env [.ExceptHandler (some (.Name x np)) none (b₀ :: suite) hpos]) (SP X pins D) X.xe s₃) X.xe s₂) X.xe s₁) (t := fun D' σ' H' => D' = D ∧ σ' = σ ∧ H' = H) ?_ [] s σ H D (I.with _) ⟨rfl, rfl, rfl⟩) (fun f s1 q => ?_) fun e s1 q => q
  · intro pins' s' σ' H' D' I' ⟨eD, eσ, eH⟩
    subst eD eσ eH
    refine wpAny_Expr_any (thn (Q := EP (X.with (X.pn ++ pins) _) pins' σ' fun _ H1 => D'.nx σ' H1) ?_ fun v s1 ⟨x, H1, I1, r1, q1⟩ => ⟨σ', H1, I1, q1⟩) I'.quiet hsw
    refine PySem.W.methodCall_KW (pl := pl) (thn (he _ _ pins' s' σ' H' _ I' h) fun u' s1 ⟨y, H1, I1, rx, a, dx, fs, ex, ea, l, q⟩ => ?_) ht
    subst ex
    obtain rfl : u' = Value.ref a := rx
    refine getmeth_ok I1 ea c hme l ?_
    exact PySem.W.callWith_K0 (first := [.ref a]) I1.kIn hme.kp (run_fn1 (us := [.ref a]) (vs := [.ref a]) F hr hb I1 (fun e s2 hx => caughtN hst hfr hc hg hm hs hdb (I1.unwith I.ok) hx) (.cons rfl .nil) q)
  · have q' : SP X pins D f s1 := q.mapI fun σ7 H7 I7 => I7.unwith I.ok
    cases f with
    | next => exact wpAny_execs_nil q'
    | brk => exact q'
    | cont => exact q'
    | ret v => exact q'
end L2
end
section
set_option Elab.async false
set_option linter.all false
set_option maxRecDepth 100000
set_option maxHeartbeats 400000
namespace L2
open PySem PySem.Spec PyProof.Rows
section
open PySem.SeqAt
open PySem.AutoSeq1 (wpAny_loadPart')
open PySem.MeetsSeq PySem.MeetsSeq2 PySem.MeetsSeq3
theorem tuple_index3 (l : Addr) (y0 y1 y2 : Value) (n : Nat) (dd : Option Addr) (sl : Array (Option Value)) (x : Value) (e : Value → Bool) (j : Nat) (hj : (e y0 = true ∧ j = 0) ∨ (e y0 = false ∧ e y1 = true ∧ j = 1) ∨ (e y0 = false ∧ e y1 = false ∧ e y2 = true ∧ j = 2)) :
    Meets (Builtin.«tuple.index» ⟨[.ref l, x], []⟩)
      (fun A R s => s.heap.get? l = some { cls := .type "tuple", dict := dd, data := .seq #[y0, y1, y2] n, slots := sl } ∧ (∀ y, y ∈ [y0, y1, y2] → EqAt A.in1 s y x (e y)) ∧ R (.ok (.ret (.int j s.toks))) { s with toks := s.toks + 1 }) :=
  .of_wp fun prog w A R s h => by
    obtain ⟨hp, g, d, tk, os⟩ := s
    obtain ⟨hl, he, h⟩ := h
    unfold Builtin.«tuple.index»
    simp only [Std.Legacy.Range.forIn_eq_forIn_range']
    wp_walk using wpAny_loadPart' hl, wpAny_forIn_list _ (fun (rest : List Nat) (b : Option Fin × Unit) s' => s' = ⟨hp, g, d, tk, os⟩ ∧ (rest = [0, 1, 2] ∨ (rest = [1, 2] ∧ e y0 = false) ∨ (rest = [2] ∧ e y0 = false ∧ e y1 = false))) _
    case fin => rintro b s' ⟨_, z | ⟨z, _⟩ | ⟨z, _⟩⟩ <;> cases z
    case h => exact ⟨rfl, .inl (by simp [Std.Legacy.Range.size, List.range'])⟩
    case turn =>
      rintro i rest b s' ⟨rfl, z | ⟨z, e0⟩ | ⟨z, e0, e1⟩⟩
      · cases z
        show wpAny _ _ (eqBool y0 x >>= _) _ _ _
        refine wpAny_bind (he y0 (by simp) prog w _ _ ?_)
        rcases hj with ⟨a, b⟩ | ⟨a, b, c⟩ | ⟨a, b, c, d⟩
        · rw [a, if_pos rfl]
          subst b
          wp_walk
          exact ⟨_, rfl, h⟩
        · rw [a, if_neg (by simp)]
          exact wpAny_pure ⟨rfl, .inr (.inl ⟨rfl, rfl⟩)⟩
        · rw [a, if_neg (by simp)]
          exact wpAny_pure ⟨rfl, .inr (.inl ⟨rfl, rfl⟩)⟩
      · cases z
        show wpAny _ _ (eqBool y1 x >>= _) _ _ _
        refine wpAny_bind (he y1 (by simp) prog w _ _ ?_)
        rcases hj with ⟨a, b⟩ | ⟨a, b, c⟩ | ⟨a, b, c, d⟩
        · rw [e0] at a; cases a
        · rw [b, if_pos rfl]
          subst c
          wp_walk
          exact ⟨_, rfl, h⟩
        · rw [b, if_neg (by simp)]
          exact wpAny_pure ⟨rfl, .inr (.inr ⟨rfl, a, rfl⟩)⟩
      · cases z
        show wpAny _ _ (eqBool y2 x >>= _) _ _ _
        refine wpAny_bind (he y2 (by simp) prog w _ _ ?_)
        rcases hj with ⟨a, b⟩ | ⟨a, b, c⟩ | ⟨a, b, c, d⟩
        · rw [e0] at a; cases a
        · rw [e1] at b; cases b
        · rw [c, if_pos rfl]
          subst d
          wp_walk
          exact ⟨_, rfl, h⟩
end
section
variable {X : Cx}
theorem eqU_int {y i : Int} {t : Tok} : eqU (V.int y) (Value.int i t) = decide (i = y) := by
  rw [eqU_of (y := V.int i) ⟨t, rfl⟩ rfl]
  show (i == y) = decide (i = y)
  rw [Bool.beq_eq_decide_eq]
theorem mt_tindex3 : MtR X "tuple.index" (fun x xs H Q => ∃ (a : Addr) (i0 i1 i2 y : Int) (j : Nat), x = V.ref a ∧ xs = [V.int y] ∧ SqT X.K H a [.int i0, .int i1, .int i2] ∧
    ((i0 = y ∧ j = 0) ∨ (i0 ≠ y ∧ i1 = y ∧ j = 1) ∨ (i0 ≠ y ∧ i1 ≠ y ∧ i2 = y ∧ j = 2)) ∧ Q (.int (j : Nat)) H) := by
  intro pins s σ H x xs v us Q I rx rxs h
  obtain ⟨a, i0, i1, i2, y, j, rfl, rfl, hs, hj, q⟩ := h
  cases rx
  obtain ⟨uy, rfl, ry⟩ := Vals.one rxs
  obtain ⟨its, rv, hit, hlen⟩ := I.tuple hs
  have h3 := rv.length
  match its, rv, hit with
  | [v0, v1, v2], rv, hit =>
    obtain ⟨⟨cls, dd, data, sl⟩, ho, hc, n, hd⟩ := hit
    simp only at hc hd
    subst hc hd
    have r3 := rv
    cases r3 with
    | cons r0 r3 =>
      cases r3 with
      | cons r1 r3 =>
        cases r3 with
        | cons r2 r3 =>
          obtain ⟨t0, rfl⟩ := r0
          obtain ⟨t1, rfl⟩ := r1
          obtain ⟨t2, rfl⟩ := r2
          refine call_meets PySem.F.slot_tuple_index ⟨_, ho, rfl⟩ PySem.F.entry_tuple_index (PySem.F.args_tuple_index_2 _ _) (tuple_index3 a _ _ _ n dd sl uy (eqU (V.int y)) j ?_) ⟨ho, fun u' hu' => mem_eqAt ry rfl rv rfl u' hu', ?_⟩
          · rw [eqU_int, eqU_int, eqU_int]
            simp only [decide_eq_true_eq, decide_eq_false_iff_not]
            exact hj
          · exact ⟨.int (j : Nat), H, I.tok _, ⟨_, rfl⟩, q⟩
  | [], _, _ => simp at h3
  | [_], _, _ => simp at h3
  | [_, _], _, _ => simp at h3
  | _ :: _ :: _ :: _ :: _, _, _ => simp at h3
theorem countP_ints {y : Int} : ∀ {ns : List Int} {us : List Value}, Vals (ns.map V.int) us → us.countP (eqU (V.int y)) = ns.countP fun i => decide (i = y)
  | [], us, h => by cases h; rfl
  | i :: ns, us, h => by
    cases h with
    | cons r t =>
      obtain ⟨tk, rfl⟩ := r
      rw [List.countP_cons, List.countP_cons, countP_ints t, eqU_int]
theorem mt_countI : MtR X "list.count" (fun x xs H Q => ∃ (a : Addr) (ns : List Int) (y : Int), x = V.ref a ∧ xs = [V.int y] ∧ SqL X.K H a (ns.map V.int) ∧ Q (.int ((ns.countP fun i => decide (i = y) : Nat) : Int)) H) := by
  intro pins s σ H x xs v us Q I rx rxs h
  obtain ⟨a, ns, y, rfl, rfl, hs, q⟩ := h
  cases rx
  obtain ⟨uy, rfl, ry⟩ := Vals.one rxs
  obtain ⟨its, rv, ⟨⟨cls, dd, data, sl⟩, n, ho, hc, hdn, hd⟩, hlen⟩ := I.list hs
  simp only at hc hd
  subst hc hd
  refine call_meets PySem.F.slot_list_count ⟨_, ho, rfl⟩ PySem.F.entry_list_count (PySem.F.args_list_count_2 _ _) (SeqAt.list_countAt a its.toArray n dd sl uy (eqU (V.int y))) ⟨ho, fun u' hu' => mem_eqAt ry rfl rv (by simp [flatV]) u' (by simpa using hu'), ?_⟩
  refine ⟨.int _, H, I.tok _, ⟨_, rfl⟩, ?_⟩
  have e := countP_ints (y := y) rv
  show Q (.int ((List.countP (eqU (V.int y)) its : Nat) : Int)) H
  rw [e]
  exact q
theorem cr_anyI (hc : X.calm = true) : CallR X (.builtin "any") (fun vs H Q => ∃ (a : Addr) (ns : List Int), vs = [V.ref a] ∧ SqL X.K H a (ns.map V.int) ∧ Q (.bl (ns.any fun n => n != 0)) H) := by
  intro pins s σ H vs us Q I r h
  obtain ⟨a, ns, rfl, hs, q⟩ := h
  obtain ⟨its, rv, hl, _⟩ := I.list hs
  rw [Vals.ref1 r]
  have hi := rv.ints
  refine call_any_walk (iter_any hl.isList fun s₂ e2 st hne => ?_)
  subst e2
  have tr : TruthOf X.prog X.w X.A.in1 (fun i v => its.toArray[i]? = some v) (fun i => (ns.map fun n => n != 0).getD i false) := fun i v s Q E hv hq => by
    obtain ⟨n, t, rfl, hn⟩ := hi.at i v (by simpa using hv)
    have e : (ns.map fun n => n != 0).getD i false = (n != 0) := by rw [List.getD_eq_getElem?_getD, List.getElem?_map, hn]; rfl
    have hq' : Q ((ns.map fun n => n != 0).getD i false) s := hq
    rw [e] at hq'
    exact truthy_int hq'
  refine ⟨_, _, _, _, _, _, _, rfl, Walks.list (A := X.A.in1) (I.ok.hd hc) _ a hne its.toArray, st, tr, fun h' tk hk => ?_⟩
  refine ⟨.bl _, H, I.kept fun b o eo => hk b o (fun hmem => ?_) (Heap.get?_push_of_some _ eo), ?_, q⟩
  · rcases List.mem_cons.mp hmem with e1 | hmem
    · exact absurd (e1 ▸ Heap.lt_size eo) (Nat.lt_irrefl _)
    · cases hmem
  · show Value.bool _ = Value.bool _
    have e1 := any_range (ns.map fun n => n != 0)
    rw [List.length_map] at e1
    rw [List.size_toArray, show its.length = ns.length from hi.length, e1, List.any_map]
    rfl
end
end L2
end
section
set_option Elab.async false
set_option linter.all false
set_option maxRecDepth 100000
set_option maxHeartbeats 400000
namespace L2
open PySem PySem.Spec PyProof.Rows
theorem Paired.perm {α β : Type} {R : α → β → Prop} {l m : List α} (hp : l.Perm m) : ∀ {k : List β}, Paired R m k → ∃ k', Paired R l k' ∧ k'.Perm k := by
  induction hp with
  | nil => intro k h; exact ⟨k, h, .refl _⟩
  | cons x _ ih =>
    intro k h
    cases h with
    | cons r t =>
      obtain ⟨k', a, b⟩ := ih t
      exact ⟨_ :: k', .cons r a, .cons _ b⟩
  | swap x y l =>
    intro k h
    cases h with
    | cons r t =>
      cases t with
      | cons r' t' => exact ⟨_, .cons r' (.cons r t'), .swap _ _ _⟩
  | trans _ _ ih1 ih2 =>
    intro k h
    obtain ⟨k1, a1, b1⟩ := ih2 h
    obtain ⟨k2, a2, b2⟩ := ih1 a1
    exact ⟨k2, a2, b2.trans b1⟩
theorem Paired.get2 {α β : Type} {R : α → β → Prop} : ∀ {l : List α} {k : List β}, Paired R l k → ∀ {i : Nat} {b : β}, k[i]? = some b → ∃ a, l[i]? = some a ∧ R a b
  | _, _, .nil, i, b, e => by simp at e
  | _, _, .cons r t, 0, b, e => by
    have e' := Option.some.inj e
    subst e'
    exact ⟨_, rfl, r⟩
  | _, _, .cons r t, i + 1, b, e => Paired.get2 t (i := i) (b := b) e
abbrev PairsAt (K : PySem.W.Frag) (H : Hp) (ps : List Addr) (prs : List (Int × Int)) : Prop := Paired (fun p q => SqT K H p [.int q.1, .int q.2]) ps prs
section
variable {X : Cx}
theorem refs_vals : ∀ {ps : List Addr} {us : List Value}, Vals (ps.map V.ref) us → us = ps.map Value.ref
  | [], _, .nil => rfl
  | p :: ps, _, .cons r t => by
    have e : _ = Value.ref p := r
    rw [e, refs_vals t]
    rfl
theorem vals_refs : ∀ (ps : List Addr), Vals (ps.map V.ref) (ps.map Value.ref)
  | [] => .nil
  | p :: ps => .cons rfl (vals_refs ps)
theorem pair_key {pins : List (Addr × Obj)} {σ : St} {H : Hp} {s : Shared} (I : Inv X pins σ H s) {p : Addr} {q : Int × Int} (h : SqT X.K H p [.int q.1, .int q.2]) :
    G.tupKeyC s.heap (fun _ => false) (.ref p) = some [.inl q.1, .inl q.2] ∧ ∃ f, TupOf s.heap (fun _ => false) (.ref p) f := by
  obtain ⟨its, rv, ⟨o, ho, hc, n, hd⟩, _⟩ := I.tuple h
  cases rv with
  | cons r0 t =>
    cases t with
    | cons r1 t =>
      cases t
      obtain ⟨t0, rfl⟩ := r0
      obtain ⟨t1, rfl⟩ := r1
      constructor
      · unfold G.tupKeyC
        rw [if_pos (by simp [G.isTupObj, ho, hc])]
        simp [tupKey, ho, hd, tupItems]
      · exact ⟨Value.int q.1 t0, p, o, _, n, rfl, ho, hc, hd, rfl, fun _ => ⟨_, _, rfl⟩, fun z => Bool.noConfusion z⟩
theorem tups_of {pins : List (Addr × Obj)} {σ : St} {H : Hp} {s : Shared} (I : Inv X pins σ H s) : ∀ {ps : List Addr} {prs : List (Int × Int)}, PairsAt X.K H ps prs → ∃ fs, TupsOf s.heap (fun _ => false) (ps.map Value.ref) fs
  | _, _, .nil => ⟨[], .nil⟩
  | _, _, .cons r t => by
    obtain ⟨fs, h⟩ := tups_of I t
    obtain ⟨f, g⟩ := (pair_key I r).2
    exact ⟨f :: fs, .cons g h⟩
theorem cr_sortedP : CallR X (.builtin "sorted") (fun vs H Q => ∃ (a : Addr) (ps : List Addr) (prs : List (Int × Int)), vs = [V.ref a] ∧ SqL X.K H a (ps.map V.ref) ∧ PairsAt X.K H ps prs ∧
    ∀ (ps' : List Addr) (prs' : List (Int × Int)) (p : Addr), PairsAt X.K H ps' prs' → prs'.Perm prs → prs'.Pairwise (fun x y => x.1 ≤ y.1) → H p = none → Q (.ref p) (upd H p (.lst (ps'.map V.ref)))) := by
  intro pins s σ H vs us Q I r h
  obtain ⟨a, ps, prs, rfl, hs, hp, q⟩ := h
  obtain ⟨its, rv, hl, hlen⟩ := I.list hs
  rw [Vals.ref1 r]
  obtain rfl := refs_vals rv
  obtain ⟨fs, ht⟩ := tups_of I hp
  have hlen' : ps.length ≤ sizeLine := by simpa using hlen
  refine G.sorted_tups (shape := fun _ => false) hl.isList ht (fun v hv => ?_) (by simpa using hlen') fun st' pm so _ => ?_
  · obtain ⟨p, hpm, rfl⟩ := List.mem_map.mp hv
    obtain ⟨i, hi⟩ := List.getElem?_of_mem hpm
    obtain ⟨b, _, hb⟩ := paired_get hp hi
    exact ⟨_, (pair_key I hb).1⟩
  · have plist : (arrOf st').toList.Perm ((ps.map Value.ref).zip (ps.map Value.ref)) := by rw [← pairsOf_toList]; exact Array.perm_iff_toList_perm.mp pm
    have same : ∀ k ∈ (arrOf st').toList, k.1 = k.2 ∧ k.1 ∈ ps.map Value.ref := fun k hk => mem_zip_self (plist.mem_iff.mp hk)
    have outp : ((arrOf st').toList.map (·.2)).Perm (ps.map Value.ref) := by
      have e := plist.map (·.2)
      rw [List.map_snd_zip (Nat.le_refl _)] at e
      exact e
    have asrefs : ∀ (l : List Value), (∀ v ∈ l, v ∈ ps.map Value.ref) → ∃ l' : List Addr, l = l'.map Value.ref := by
      intro l
      induction l with
      | nil => intro _; exact ⟨[], rfl⟩
      | cons v l ih =>
        intro hv
        obtain ⟨l', rfl⟩ := ih fun u hu => hv u (List.mem_cons_of_mem _ hu)
        obtain ⟨p, _, rfl⟩ := List.mem_map.mp (hv v (List.mem_cons_self ..))
        exact ⟨p :: l', rfl⟩
    obtain ⟨ps', hps'⟩ := asrefs ((arrOf st').toList.map (·.2)) fun v hv => outp.mem_iff.mp hv
    have pp : ps'.Perm ps := by
      rw [hps'] at outp
      have e := outp.map (fun v => match v with | Value.ref a => a | _ => 0)
      rw [List.map_map, List.map_map] at e
      have id1 : ∀ l : List Addr, l.map ((fun v => match v with | Value.ref a => a | _ => 0) ∘ Value.ref) = l := fun l => by
        induction l with
        | nil => rfl
        | cons x l ih => rw [List.map_cons, ih]; rfl
      rw [id1, id1] at e
      exact e
    obtain ⟨prs', pa, pe⟩ := Paired.perm pp hp
    have srt : prs'.Pairwise (fun x y => x.1 ≤ y.1) := by
      rw [List.pairwise_iff_getElem]
      intro i j hi hj hij
      have ei : prs'[i]? = some prs'[i] := List.getElem?_eq_getElem hi
      have ej : prs'[j]? = some prs'[j] := List.getElem?_eq_getElem hj
      obtain ⟨pi, api, ri⟩ := Paired.get2 pa ei
      obtain ⟨pj, apj, rj⟩ := Paired.get2 pa ej
      have ki := (pair_key I ri).1
      have kj := (pair_key I rj).1
      have at_ : ∀ (k : Nat) (b : Addr) (l : List (Int ⊕ List Nat)), ps'[k]? = some b → G.tupKeyC s.heap (fun _ => false) (.ref b) = some l → KK (G.tupKindC s.heap fun _ => false) (arrOf st') k = l := by
        intro k b l hb hk
        have e1 : ((arrOf st').toList.map (·.2))[k]? = some (Value.ref b) := by rw [hps', List.getElem?_map, hb]; rfl
        rw [List.getElem?_map] at e1
        cases e2 : (arrOf st').toList[k]? with
        | none => rw [e2] at e1; cases e1
        | some kv =>
          rw [e2] at e1
          have e3 : kv.2 = Value.ref b := Option.some.inj e1
          have e4 := (same kv (List.mem_of_getElem? e2)).1
          unfold KK
          rw [show (arrOf st')[k]? = some kv by rw [← Array.getElem?_toList]; exact e2]
          show (G.tupKeyC s.heap (fun _ => false) kv.1).getD [] = l
          rw [e4, e3, hk]
          rfl
      have jl : j < (pairsOf (ps.map Value.ref)).size := by
        rw [pairsOf_size, List.length_map, ← pp.length_eq, Paired.length pa]
        exact hj
      have sij := so i j (Nat.le_of_lt hij) jl
      rw [at_ i pi _ api ki, at_ j pj _ apj kj] at sij
      have z : lexLt itemOrd [Sum.inl prs'[j].1, Sum.inl prs'[j].2] [Sum.inl prs'[i].1, Sum.inl prs'[i].2] = false := sij
      have z2 := (lex_false.mp z).1
      have z3 : decide (prs'[j].1 < prs'[i].1) = false := z2
      have := of_decide_eq_false z3
      omega
    obtain ⟨ep, he'⟩ := sortedAll_at s.heap (ps.map Value.ref) ((arrOf st').map (·.2))
    have oute : ((arrOf st').map (·.2)).toList = ps'.map Value.ref := by rw [Array.toList_map]; exact hps'
    have hlen2 : (ps'.map V.ref).length ≤ sizeLine := by rw [List.length_map, pp.length_eq]; exact hlen'
    have he2 : (sortedAll s.heap (ps.map Value.ref) ((arrOf st').map (·.2))).get? (s.heap.objs.size + 1) = some { cls := .type "list", data := .seq (ps'.map Value.ref).toArray ep } := by
      rw [he', ← oute]
    exact ⟨.ref _, upd H (s.heap.objs.size + 1) (.lst (ps'.map V.ref)), I.laid (t' := s.toks) (fun _ _ => sortedAll_old) (Nat.le_succ _) ⟨hlen2, ps'.map Value.ref, ep, vals_refs ps', he2⟩, rfl, q ps' prs' _ pa pe srt (I.hok.fresh (Nat.le_succ _))⟩
end
end L2
end
section
set_option Elab.async false
set_option linter.all false
set_option maxRecDepth 100000
set_option maxHeartbeats 400000
namespace L2
open PySem PySem.Spec PyProof.Rows
theorem turn_long {P : Program} {w : World} {K : PySem.W.Frag} {tg : Expr} (it : Addr) (lo : Int) (n : Nat) : Turn P w K tg (Itr lo n) [it] it (fun i h => IsLongIter h it (lo + (i : Nat) * 1) ((n : Int) - (i : Nat)) 1) where
  mem := by simp
  obj := fun i h st b hb => by
    have e : b = it := by simpa using hb
    subst e
    exact ⟨_, st, fun v z => by
      have z' : Data.fields _ = Data.cell v := z
      cases z'⟩
  keep := fun i h h' st k => k it (by simp) _ st
  item := by
    intro X hP hw hK hc i pins s σ H E I hf st hg
    subst hP hw hK
    obtain ⟨f0, f1, f2, f3, f4, f5⟩ := hf it (by simp)
    have W := Walks.longrange (prog := X.prog) (w := X.w) (I.ok.hd hc) it lo 1 n
    refine W.item i s _ _ hg st fun v h' tk hv st' kk => ?_
    obtain ⟨t, rfl⟩ := hv
    have I1 : Inv X pins σ H { s with heap := h', toks := tk } := I.turned (fun b o hb e => kk b o (by simpa using hb) e) f0 f1 f3 f4 f5
    refine ⟨_, rfl, go_of (s := { s with heap := h', toks := tk }) (n := "longrange_iterator") st' rfl rfl (by decide) ⟨.int (lo + i), H, I1, ⟨t, ?_⟩, ⟨rfl, rfl⟩, st', fun b hb => (hf b hb).1⟩⟩
    rw [Int.mul_one]
  done := by
    intro X hP hw hK hc i pins s σ H E I hf st hg
    subst hP hw hK
    obtain ⟨f0, f1, f2, f3, f4, f5⟩ := hf it (by simp)
    exact wpAny_pyNext_long_end (I.ok.hd hc) st (by have : n ≤ i := hg; omega) fun h' eb => ⟨rfl, I.turned (t' := s.toks) (fun b o hb e => eb b o hb e) f0 f1 f3 f4 f5⟩
  self := fun _ _ _ _ _ st h => wpAny_pyIter_longiter st h
section
variable {X : Cx} {tg : Expr}
theorem range_itW {pins : List (Addr × Obj)} {σ : St} {H : Hp} {s : Shared} {R : It → Hp → Prop} {E : Value → Shared → Prop} {lo hi : Int} {t u v : Tok} {tk : Nat} (I : Inv X pins σ H s)
    (q : R (Itr lo (hi - lo).toNat) H) : wpAny (model X.prog X.w) X.A (pyIter (.ref s.heap.objs.size)) (PIE X pins σ tg R) E { s with heap := s.heap.push { cls := .type "range", data := .fields #[.int lo t, .int hi u, .int 1 v] }, toks := tk } := by
  have I1 : Inv X pins σ H { s with heap := s.heap.push { cls := .type "range", data := .fields #[.int lo t, .int hi u, .int 1 v] }, toks := tk } := I.kept fun b o e => Heap.get?_push_of_some _ e
  have e1 : lo + ((0 : Nat) : Int) * 1 = lo := by simp
  have e2 : (((hi - lo).toNat : Nat) : Int) - ((0 : Nat) : Int) = Builtin.Range.rangeSize lo hi 1 := by rw [rangeSize_one]; split <;> omega
  have fp : ∀ b ∈ [(s.heap.push { cls := .type "range", data := .fields #[.int lo t, .int hi u, .int 1 v] }).objs.size], FpOk X pins H b := fun b hb => by
    have e : b = (s.heap.push { cls := .type "range", data := .fields #[.int lo t, .int hi u, .int 1 v] }).objs.size := by simpa using hb
    subst e
    exact I1.fpOk (Nat.le_refl _) (I1.hok.fresh (Nat.le_refl _))
  cases hsm : Builtin.Range.small lo hi 1 with
  | true =>
    refine wpAny_pyIter_range (IsRange.new ..) hsm ?_
    refine ⟨(s.heap.push { cls := .type "range", data := .fields #[.int lo t, .int hi u, .int 1 v] }).objs.size, [(s.heap.push { cls := .type "range", data := .fields #[.int lo t, .int hi u, .int 1 v] }).objs.size], _, _, H, rfl,
      I1.kept (t' := tk) fun b o e => Heap.get?_push_of_some _ e, turn_range _ lo (hi - lo).toNat, ?_, fp, q⟩
    show IsRangeIter _ _ (lo + ((0 : Nat) : Int) * 1) ((((hi - lo).toNat : Nat) : Int) - ((0 : Nat) : Int)) 1
    rw [e1, e2]
    exact Heap.get?_push_size _ rfl
  | false =>
    refine wpAny_pyIter_longrange (IsRange.new ..) hsm ?_
    refine ⟨(s.heap.push { cls := .type "range", data := .fields #[.int lo t, .int hi u, .int 1 v] }).objs.size, [(s.heap.push { cls := .type "range", data := .fields #[.int lo t, .int hi u, .int 1 v] }).objs.size], _, _, H, rfl,
      I1.kept (t' := tk) fun b o e => Heap.get?_push_of_some _ e, turn_long _ lo (hi - lo).toNat, ?_, fp, q⟩
    show IsLongIter _ _ (lo + ((0 : Nat) : Int) * 1) ((((hi - lo).toNat : Nat) : Int) - ((0 : Nat) : Int)) 1
    rw [e1, e2]
    exact Heap.get?_push_size _ rfl
@[reducible] def iRngW (ta : TA) : TI := fun σ H R => ta σ H fun vs H1 => ∃ i j : Int, vs = [.int i, .int j] ∧ R (Itr i (j - i).toNat) H1
theorem pi_rangeW {a b : Expr} {ta : TA} {p pos : Pos} (hg : Gl X "range") (hm : X.mg "range" = none) (ha : PA X [a, b] ta) (hs : starEach [a, b] X.env = [(false, eval a X.env), (false, eval b X.env)] := by rfl) (hs2 : starEach [b] X.env = [(false, eval b X.env)] := by rfl) :
    PI X tg (.Call (.Name "range" p) [a, b] [] pos) (iRngW ta) := by
  intro pins s σ H R I h
  refine Call_ (ld_blt I hg hm boot_range (PyProof.Rows.callWith_type1 (thn (ha pos pins s σ H _ I h) fun us s1 ⟨vs, H1, I1, r1, q1⟩ => ?_) (by rw [hs, hs2]) (by rw [hs2]; rfl)))
  obtain ⟨i, j, e, q⟩ := q1
  subst e
  cases r1 with
  | cons r rr =>
    cases rr with
    | cons r' rr =>
      cases rr
      obtain ⟨t, rfl⟩ := r
      obtain ⟨t', rfl⟩ := r'
      exact call_range_2 (range_itW I1 q)
end
theorem ps_fldK (K : PySem.W.Frag) {X : Cx} {o value : Expr} {f : Str} {pos pos' : Pos} {ta tv : TE} (ha : PE X o ta) (hv : PE X value tv) (hs : swapsWith value (some (.Attribute o f pos')) pos.line X.env = pure false) (hK : X.K = K := by rfl) : PS X (.Assign [.Attribute o f pos'] value pos) (sFld K ta tv f) := by
  subst hK
  exact ps_fld ha hv hs
end L2
end
section
set_option Elab.async false
set_option linter.all false
set_option maxRecDepth 100000
set_option maxHeartbeats 400000
namespace WS
open PySem PySem.Spec PyProof.Rows L2
theorem boot_any : bootBuiltins "any" = some (.builtin "any") := by decide +kernel
theorem boot_abs : bootBuiltins "abs" = some (.builtin "abs") := by decide +kernel
theorem boot_max : bootBuiltins "max" = some (.builtin "max") := by decide +kernel
theorem boot_list : bootBuiltins "list" = some (.type "list") := by decide +kernel
theorem boot_sorted : bootBuiltins "sorted" = some (.builtin "sorted") := by decide +kernel
def GI (mg : Str → Option Value) (x : Str) (n : Int) : Prop := ∃ t, mg x = some (.int n t)
theorem pe_gint {X : Cx} {x : Str} {n : Int} {pos : Pos} (hg : Gl X x) (hm : GI X.mg x n) (hd : (x == ("__debug__" : Str)) = false := by decide) : PE X (.Name x pos) (tC (.int n)) := by
  obtain ⟨t, hm⟩ := hm
  exact pe_glob hg hm ⟨t, rfl⟩ hd
theorem get_list {X : Cx} : PGet X (rIxL X.K) := by
  intro pins s σ H o i ov iv Q I ro ri h
  obtain ⟨p, xs, k, v, rfl, rfl, hq, ha, q⟩ := h
  obtain ⟨its, rv, pl, hz⟩ := I.list hq
  obtain ⟨j, hj, hx, hlt, hlo, hhi⟩ := atI_get ha
  obtain ⟨u, hu, ru⟩ := rv.get hx
  have hl := rv.length
  have hn := line63
  cases ro
  obtain ⟨t, rfl⟩ := ri
  have fin : EP X pins σ Q u s := ⟨v, H, I, ru, q⟩
  by_cases h0 : 0 ≤ k
  · have e : k.toNat = j := by
      rw [seqIndex_of h0 hhi] at hj
      exact Option.some.inj hj
    exact wpAny_getItem_list pl.isList h0 (by omega) (by rw [e]; simpa using hu) fin
  · have e : (k + (its.toArray.size : Int)).toNat = j := by
      rw [seqIndex_neg (by omega) hlo] at hj
      rw [List.size_toArray, ← hl]
      exact Option.some.inj hj
    exact wpAny_getItem_list_neg pl.isList (by omega) (by rw [List.size_toArray] <;> omega) (by omega) (by rw [e]; simpa using hu) fin
theorem pe_fldK (K : PySem.W.Frag) {X : Cx} {e : Expr} {f : Str} {pos : Pos} {ta : TE} (he : PE X e ta) (hb : attributeBase e f X.env (eval e X.env) = eval e X.env := by rfl) (hK : X.K = K := by rfl) : PE X (.Attribute e f pos) (tFld K ta f) := by
  subst hK
  exact pe_fld he hb
theorem ix_listK (K : PySem.W.Frag) {X : Cx} (hK : X.K = K := by rfl) : IxR X (rIxL K) := by
  subst hK
  exact ix_list
theorem cr_anyIK (K : PySem.W.Frag) {X : Cx} (hc : X.calm = true := by rfl) (hK : X.K = K := by rfl) : CallR X (.builtin "any") (fun vs H Q => ∃ (a : Addr) (ns : List Int), vs = [V.ref a] ∧ SqL K H a (ns.map V.int) ∧ Q (.bl (ns.any fun n => n != 0)) H) := by
  subst hK
  exact cr_anyI hc
def top (i : Nat) : Stmt := PySem.Challenge.pw_wholesays_s01_is_true.main.body.getD i (.Pass ⟨0, 0, 0, 0⟩)
abbrev s_Reader_init : Stmt := inClass (top 29) 0
theorem sc_Reader_init : FnScope ["self", "text"] ["self", "text"] (defScope s_Reader_init) := ⟨rfl, rfl, rfl, by decide +kernel, rfl, by decide +kernel, by decide +kernel⟩
abbrev s_peek : Stmt := inClass (top 29) 1
theorem sc_peek : FnScope ["self"] ["self"] (defScope s_peek) := ⟨rfl, rfl, rfl, by decide +kernel, rfl, by decide +kernel, by decide +kernel⟩
abbrev s_take : Stmt := inClass (top 29) 2
theorem sc_take : FnScope ["self", "byte"] ["self"] (defScope s_take) := ⟨rfl, rfl, rfl, by decide +kernel, rfl, by decide +kernel, by decide +kernel⟩
abbrev s_take_just : Stmt := inClass (top 29) 3
theorem sc_take_just : FnScope ["self", "byte"] ["self", "byte"] (defScope s_take_just) := ⟨rfl, rfl, rfl, by decide +kernel, rfl, by decide +kernel, by decide +kernel⟩
abbrev s_take_digit : Stmt := inClass (top 29) 4
theorem sc_take_digit : FnScope ["self", "lowest", "highest", "digit"] ["self", "lowest", "highest"] (defScope s_take_digit) := ⟨rfl, rfl, rfl, by decide +kernel, rfl, by decide +kernel, by decide +kernel⟩
abbrev s_take_unknown : Stmt := inClass (top 29) 5
theorem sc_take_unknown : FnScope ["self", "byte"] ["self"] (defScope s_take_unknown) := ⟨rfl, rfl, rfl, by decide +kernel, rfl, by decide +kernel, by decide +kernel⟩
abbrev s_read_whole : Stmt := inClass (top 29) 6
theorem sc_read_whole : FnScope ["self"] ["self"] (defScope s_read_whole) := ⟨rfl, rfl, rfl, by decide +kernel, rfl, by decide +kernel, by decide +kernel⟩
abbrev s_read_to_claim : Stmt := inClass (top 29) 7
theorem sc_read_to_claim : FnScope ["self", "byte"] ["self"] (defScope s_read_to_claim) := ⟨rfl, rfl, rfl, by decide +kernel, rfl, by decide +kernel, by decide +kernel⟩
abbrev s_read_start : Stmt := inClass (top 29) 8
theorem sc_read_start : FnScope ["self", "byte"] ["self", "byte"] (defScope s_read_start) := ⟨rfl, rfl, rfl, by decide +kernel, rfl, by decide +kernel, by decide +kernel⟩
abbrev s_go_on_behind_text : Stmt := inClass (top 29) 9
theorem sc_go_on_behind_text : FnScope ["self", "begun", "sign", "body"] ["self"] (defScope s_go_on_behind_text) := ⟨rfl, rfl, rfl, by decide +kernel, rfl, by decide +kernel, by decide +kernel⟩
abbrev s_read_join : Stmt := inClass (top 29) 10
theorem sc_read_join : FnScope ["self", "sign"] ["self"] (defScope s_read_join) := ⟨rfl, rfl, rfl, by decide +kernel, rfl, by decide +kernel, by decide +kernel⟩
abbrev s_read_claim : Stmt := inClass (top 29) 11
theorem sc_read_claim : FnScope ["self", "left", "sign", "divisor", "rest", "step", "right", "slopes", "k"] ["self"] (defScope s_read_claim) := ⟨rfl, rfl, rfl, by decide +kernel, rfl, by decide +kernel, by decide +kernel⟩
abbrev s_read_sum : Stmt := inClass (top 29) 12
theorem sc_read_sum : FnScope ["self", "total"] ["self"] (defScope s_read_sum) := ⟨rfl, rfl, rfl, by decide +kernel, rfl, by decide +kernel, by decide +kernel⟩
abbrev s_read_part : Stmt := inClass (top 29) 13
theorem sc_read_part : FnScope ["self", "total", "number", "unknown"] ["self", "total"] (defScope s_read_part) := ⟨rfl, rfl, rfl, by decide +kernel, rfl, by decide +kernel, by decide +kernel⟩
abbrev s_read_unknown : Stmt := inClass (top 29) 14
theorem sc_read_unknown : FnScope ["self", "unknown", "sign", "bound"] ["self"] (defScope s_read_unknown) := ⟨rfl, rfl, rfl, by decide +kernel, rfl, by decide +kernel, by decide +kernel⟩
abbrev s_read_text : Stmt := top 30
theorem sc_read_text : FnScope ["text", "reader"] ["text"] (defScope s_read_text) := ⟨rfl, rfl, rfl, by decide +kernel, rfl, by decide +kernel, by decide +kernel⟩
abbrev s_Band_init : Stmt := inClass (top 31) 0
theorem sc_Band_init : FnScope ["self", "slopes", "low", "high"] ["self", "slopes", "low", "high"] (defScope s_Band_init) := ⟨rfl, rfl, rfl, by decide +kernel, rfl, by decide +kernel, by decide +kernel⟩
abbrev s_Outline_init : Stmt := inClass (top 32) 0
theorem sc_Outline_init : FnScope ["self", "bands", "period"] ["self", "bands", "period"] (defScope s_Outline_init) := ⟨rfl, rfl, rfl, by decide +kernel, rfl, by decide +kernel, by decide +kernel⟩
abbrev s_common_divisor : Stmt := top 33
theorem sc_common_divisor : FnScope ["a", "b", "rest"] ["a", "b"] (defScope s_common_divisor) := ⟨rfl, rfl, rfl, by decide +kernel, rfl, by decide +kernel, by decide +kernel⟩
abbrev s_common_multiple : Stmt := top 34
theorem sc_common_multiple : FnScope ["a", "b"] ["a", "b"] (defScope s_common_multiple) := ⟨rfl, rfl, rfl, by decide +kernel, rfl, by decide +kernel, by decide +kernel⟩
abbrev s_value_at : Stmt := top 35
theorem sc_value_at : FnScope ["slopes", "number", "point"] ["slopes", "number", "point"] (defScope s_value_at) := ⟨rfl, rfl, rfl, by decide +kernel, rfl, by decide +kernel, by decide +kernel⟩
abbrev s_outline_of : Stmt := top 36
theorem sc_outline_of : FnScope ["steps", "bands", "period", "step", "inner"] ["steps"] (defScope s_outline_of) := ⟨rfl, rfl, rfl, by decide +kernel, rfl, by decide +kernel, by decide +kernel⟩
abbrev s_outline_without : Stmt := top 37
theorem sc_outline_without : FnScope ["unknown", "inner", "turning", "band", "k", "scale", "period", "bands", "start"] ["unknown", "inner"] (defScope s_outline_without) := ⟨rfl, rfl, rfl, by decide +kernel, rfl, by decide +kernel, by decide +kernel⟩
abbrev s_rising : Stmt := top 38
theorem sc_rising : FnScope ["band", "unknown", "slope"] ["band", "unknown"] (defScope s_rising) := ⟨rfl, rfl, rfl, by decide +kernel, rfl, by decide +kernel, by decide +kernel⟩
abbrev s_put_in : Stmt := top 39
theorem sc_put_in : FnScope ["start", "band", "unknown", "scale", "most_shift", "slope", "times", "slopes", "k", "low", "high"] ["start", "band", "unknown", "scale", "most_shift"] (defScope s_put_in) := ⟨rfl, rfl, rfl, by decide +kernel, rfl, by decide +kernel, by decide +kernel⟩
abbrev s_in_lowest_terms : Stmt := top 40
theorem sc_in_lowest_terms : FnScope ["band", "divisor", "slope", "slopes"] ["band"] (defScope s_in_lowest_terms) := ⟨rfl, rfl, rfl, by decide +kernel, rfl, by decide +kernel, by decide +kernel⟩
abbrev s_stretches : Stmt := top 41
theorem sc_stretches : FnScope ["unknown", "steps", "point", "outline", "origin", "found", "band", "upward", "slope", "first", "last"] ["unknown", "steps", "point"] (defScope s_stretches) := ⟨rfl, rfl, rfl, by decide +kernel, rfl, by decide +kernel, by decide +kernel⟩
abbrev s_least_value : Stmt := top 42
theorem sc_least_value : FnScope ["unknown", "steps", "point", "wanted", "trial", "tried", "first", "end", "value"] ["unknown", "steps", "point", "wanted"] (defScope s_least_value) := ⟨rfl, rfl, rfl, by decide +kernel, rfl, by decide +kernel, by decide +kernel⟩
abbrev s_is_so : Stmt := top 43
theorem sc_is_so : FnScope ["steps", "point", "answers", "step", "sign", "second"] ["steps", "point"] (defScope s_is_so) := ⟨rfl, rfl, rfl, by decide +kernel, rfl, by decide +kernel, by decide +kernel⟩
abbrev s_is_join_so : Stmt := top 44
theorem sc_is_join_so : FnScope ["sign", "first", "second"] ["sign", "first", "second"] (defScope s_is_join_so) := ⟨rfl, rfl, rfl, by decide +kernel, rfl, by decide +kernel, by decide +kernel⟩
abbrev s_is_claim_so : Stmt := top 45
theorem sc_is_claim_so : FnScope ["step", "point", "value"] ["step", "point"] (defScope s_is_claim_so) := ⟨rfl, rfl, rfl, by decide +kernel, rfl, by decide +kernel, by decide +kernel⟩
abbrev s_is_true : Stmt := top 46
theorem sc_is_true : FnScope ["text", "reader"] ["text"] (defScope s_is_true) := ⟨rfl, rfl, rfl, by decide +kernel, rfl, by decide +kernel, by decide +kernel⟩
set_option genInjectivity false in
set_option genSizeOf false in
structure Adr where
  f_Reader_init : Addr
  d_Reader_init : FuncData
  f_peek : Addr
  d_peek : FuncData
  f_take : Addr
  d_take : FuncData
  f_take_just : Addr
  d_take_just : FuncData
  f_take_digit : Addr
  d_take_digit : FuncData
  f_take_unknown : Addr
  d_take_unknown : FuncData
  f_read_whole : Addr
  d_read_whole : FuncData
  f_read_to_claim : Addr
  d_read_to_claim : FuncData
  f_read_start : Addr
  d_read_start : FuncData
  f_go_on_behind_text : Addr
  d_go_on_behind_text : FuncData
  f_read_join : Addr
  d_read_join : FuncData
  f_read_claim : Addr
  d_read_claim : FuncData
  f_read_sum : Addr
  d_read_sum : FuncData
  f_read_part : Addr
  d_read_part : FuncData
  f_read_unknown : Addr
  d_read_unknown : FuncData
  f_read_text : Addr
  d_read_text : FuncData
  f_Band_init : Addr
  d_Band_init : FuncData
  f_Outline_init : Addr
  d_Outline_init : FuncData
  f_common_divisor : Addr
  d_common_divisor : FuncData
  f_common_multiple : Addr
  d_common_multiple : FuncData
  f_value_at : Addr
  d_value_at : FuncData
  f_outline_of : Addr
  d_outline_of : FuncData
  f_outline_without : Addr
  d_outline_without : FuncData
  f_rising : Addr
  d_rising : FuncData
  f_put_in : Addr
  d_put_in : FuncData
  f_in_lowest_terms : Addr
  d_in_lowest_terms : FuncData
  f_stretches : Addr
  d_stretches : FuncData
  f_least_value : Addr
  d_least_value : FuncData
  f_is_so : Addr
  d_is_so : FuncData
  f_is_join_so : Addr
  d_is_join_so : FuncData
  f_is_claim_so : Addr
  d_is_claim_so : FuncData
  f_is_true : Addr
  d_is_true : FuncData
  C_NoText : Addr
  C_Reader : Addr
  C_Band : Addr
  C_Outline : Addr
  uU : Addr
structure Txt (K : PySem.W.Frag) (mg : Str → Option Value) (a : Adr) : Prop where
  f_Reader_init : Fun K "__init__" "Reader.__init__" s_Reader_init a.f_Reader_init a.d_Reader_init
  b_Reader_init : Binds K a.d_Reader_init ["self", "text"] []
  f_peek : Fun K "peek" "Reader.peek" s_peek a.f_peek a.d_peek
  b_peek : Binds K a.d_peek ["self"] []
  h_peek : Meth K a.C_Reader "peek" a.f_peek
  f_take : Fun K "take" "Reader.take" s_take a.f_take a.d_take
  b_take : Binds K a.d_take ["self"] []
  h_take : Meth K a.C_Reader "take" a.f_take
  f_take_just : Fun K "take_just" "Reader.take_just" s_take_just a.f_take_just a.d_take_just
  b_take_just : Binds K a.d_take_just ["self", "byte"] []
  h_take_just : Meth K a.C_Reader "take_just" a.f_take_just
  f_take_digit : Fun K "take_digit" "Reader.take_digit" s_take_digit a.f_take_digit a.d_take_digit
  b_take_digit : Binds K a.d_take_digit ["self", "lowest", "highest"] []
  h_take_digit : Meth K a.C_Reader "take_digit" a.f_take_digit
  f_take_unknown : Fun K "take_unknown" "Reader.take_unknown" s_take_unknown a.f_take_unknown a.d_take_unknown
  b_take_unknown : Binds K a.d_take_unknown ["self"] []
  h_take_unknown : Meth K a.C_Reader "take_unknown" a.f_take_unknown
  f_read_whole : Fun K "read_whole" "Reader.read_whole" s_read_whole a.f_read_whole a.d_read_whole
  b_read_whole : Binds K a.d_read_whole ["self"] []
  h_read_whole : Meth K a.C_Reader "read_whole" a.f_read_whole
  f_read_to_claim : Fun K "read_to_claim" "Reader.read_to_claim" s_read_to_claim a.f_read_to_claim a.d_read_to_claim
  b_read_to_claim : Binds K a.d_read_to_claim ["self"] []
  h_read_to_claim : Meth K a.C_Reader "read_to_claim" a.f_read_to_claim
  f_read_start : Fun K "read_start" "Reader.read_start" s_read_start a.f_read_start a.d_read_start
  b_read_start : Binds K a.d_read_start ["self", "byte"] []
  h_read_start : Meth K a.C_Reader "read_start" a.f_read_start
  f_go_on_behind_text : Fun K "go_on_behind_text" "Reader.go_on_behind_text" s_go_on_behind_text a.f_go_on_behind_text a.d_go_on_behind_text
  b_go_on_behind_text : Binds K a.d_go_on_behind_text ["self"] []
  h_go_on_behind_text : Meth K a.C_Reader "go_on_behind_text" a.f_go_on_behind_text
  f_read_join : Fun K "read_join" "Reader.read_join" s_read_join a.f_read_join a.d_read_join
  b_read_join : Binds K a.d_read_join ["self"] []
  h_read_join : Meth K a.C_Reader "read_join" a.f_read_join
  f_read_claim : Fun K "read_claim" "Reader.read_claim" s_read_claim a.f_read_claim a.d_read_claim
  b_read_claim : Binds K a.d_read_claim ["self"] []
  h_read_claim : Meth K a.C_Reader "read_claim" a.f_read_claim
  f_read_sum : Fun K "read_sum" "Reader.read_sum" s_read_sum a.f_read_sum a.d_read_sum
  b_read_sum : Binds K a.d_read_sum ["self"] []
  h_read_sum : Meth K a.C_Reader "read_sum" a.f_read_sum
  f_read_part : Fun K "read_part" "Reader.read_part" s_read_part a.f_read_part a.d_read_part
  b_read_part : Binds K a.d_read_part ["self", "total"] []
  h_read_part : Meth K a.C_Reader "read_part" a.f_read_part
  f_read_unknown : Fun K "read_unknown" "Reader.read_unknown" s_read_unknown a.f_read_unknown a.d_read_unknown
  b_read_unknown : Binds K a.d_read_unknown ["self"] []
  h_read_unknown : Meth K a.C_Reader "read_unknown" a.f_read_unknown
  f_read_text : Fun K "read_text" "read_text" s_read_text a.f_read_text a.d_read_text
  b_read_text : Binds K a.d_read_text ["text"] []
  m_read_text : mg "read_text" = some (.ref a.f_read_text)
  f_Band_init : Fun K "__init__" "Band.__init__" s_Band_init a.f_Band_init a.d_Band_init
  b_Band_init : Binds K a.d_Band_init ["self", "slopes", "low", "high"] []
  f_Outline_init : Fun K "__init__" "Outline.__init__" s_Outline_init a.f_Outline_init a.d_Outline_init
  b_Outline_init : Binds K a.d_Outline_init ["self", "bands", "period"] []
  f_common_divisor : Fun K "common_divisor" "common_divisor" s_common_divisor a.f_common_divisor a.d_common_divisor
  b_common_divisor : Binds K a.d_common_divisor ["a", "b"] []
  m_common_divisor : mg "common_divisor" = some (.ref a.f_common_divisor)
  f_common_multiple : Fun K "common_multiple" "common_multiple" s_common_multiple a.f_common_multiple a.d_common_multiple
  b_common_multiple : Binds K a.d_common_multiple ["a", "b"] []
  m_common_multiple : mg "common_multiple" = some (.ref a.f_common_multiple)
  f_value_at : Fun K "value_at" "value_at" s_value_at a.f_value_at a.d_value_at
  b_value_at : Binds K a.d_value_at ["slopes", "number", "point"] []
  m_value_at : mg "value_at" = some (.ref a.f_value_at)
  f_outline_of : Fun K "outline_of" "outline_of" s_outline_of a.f_outline_of a.d_outline_of
  b_outline_of : Binds K a.d_outline_of ["steps"] []
  m_outline_of : mg "outline_of" = some (.ref a.f_outline_of)
  f_outline_without : Fun K "outline_without" "outline_without" s_outline_without a.f_outline_without a.d_outline_without
  b_outline_without : Binds K a.d_outline_without ["unknown", "inner"] []
  m_outline_without : mg "outline_without" = some (.ref a.f_outline_without)
  f_rising : Fun K "rising" "rising" s_rising a.f_rising a.d_rising
  b_rising : Binds K a.d_rising ["band", "unknown"] []
  m_rising : mg "rising" = some (.ref a.f_rising)
  f_put_in : Fun K "put_in" "put_in" s_put_in a.f_put_in a.d_put_in
  b_put_in : Binds K a.d_put_in ["start", "band", "unknown", "scale", "most_shift"] []
  m_put_in : mg "put_in" = some (.ref a.f_put_in)
  f_in_lowest_terms : Fun K "in_lowest_terms" "in_lowest_terms" s_in_lowest_terms a.f_in_lowest_terms a.d_in_lowest_terms
  b_in_lowest_terms : Binds K a.d_in_lowest_terms ["band"] []
  m_in_lowest_terms : mg "in_lowest_terms" = some (.ref a.f_in_lowest_terms)
  f_stretches : Fun K "stretches" "stretches" s_stretches a.f_stretches a.d_stretches
  b_stretches : Binds K a.d_stretches ["unknown", "steps", "point"] []
  m_stretches : mg "stretches" = some (.ref a.f_stretches)
  f_least_value : Fun K "least_value" "least_value" s_least_value a.f_least_value a.d_least_value
  b_least_value : Binds K a.d_least_value ["unknown", "steps", "point", "wanted"] []
  m_least_value : mg "least_value" = some (.ref a.f_least_value)
  f_is_so : Fun K "is_so" "is_so" s_is_so a.f_is_so a.d_is_so
  b_is_so : Binds K a.d_is_so ["steps", "point"] []
  m_is_so : mg "is_so" = some (.ref a.f_is_so)
  f_is_join_so : Fun K "is_join_so" "is_join_so" s_is_join_so a.f_is_join_so a.d_is_join_so
  b_is_join_so : Binds K a.d_is_join_so ["sign", "first", "second"] []
  m_is_join_so : mg "is_join_so" = some (.ref a.f_is_join_so)
  f_is_claim_so : Fun K "is_claim_so" "is_claim_so" s_is_claim_so a.f_is_claim_so a.d_is_claim_so
  b_is_claim_so : Binds K a.d_is_claim_so ["step", "point"] []
  m_is_claim_so : mg "is_claim_so" = some (.ref a.f_is_claim_so)
  f_is_true : Fun K "is_true" "is_true" s_is_true a.f_is_true a.d_is_true
  b_is_true : Binds K a.d_is_true ["text"] []
  m_is_true : mg "is_true" = some (.ref a.f_is_true)
  m_NoText : mg "NoText" = some (.ref a.C_NoText)
  m_Reader : mg "Reader" = some (.ref a.C_Reader)
  c_Reader : Cls K a.C_Reader
  k_Reader : Mk K a.C_Reader a.f_Reader_init
  a_Reader_text : NoAttr K a.C_Reader "text"
  a_Reader_place : NoAttr K a.C_Reader "place"
  a_Reader_refusal : NoAttr K a.C_Reader "refusal"
  a_Reader_free : NoAttr K a.C_Reader "free"
  a_Reader_waiting : NoAttr K a.C_Reader "waiting"
  a_Reader_steps : NoAttr K a.C_Reader "steps"
  a_Reader_bodies : NoAttr K a.C_Reader "bodies"
  m_Band : mg "Band" = some (.ref a.C_Band)
  c_Band : Cls K a.C_Band
  k_Band : Mk K a.C_Band a.f_Band_init
  a_Band_slopes : NoAttr K a.C_Band "slopes"
  a_Band_low : NoAttr K a.C_Band "low"
  a_Band_high : NoAttr K a.C_Band "high"
  m_Outline : mg "Outline" = some (.ref a.C_Outline)
  c_Outline : Cls K a.C_Outline
  k_Outline : Mk K a.C_Outline a.f_Outline_init
  a_Outline_bands : NoAttr K a.C_Outline "bands"
  a_Outline_period : NoAttr K a.C_Outline "period"
  g_TOO_LONG : GI mg "TOO_LONG" (-2)
  g_NO_TEXT : GI mg "NO_TEXT" (-1)
  g_FREE_UNKNOWN : GI mg "FREE_UNKNOWN" (-3)
  g_NO_REFUSAL : GI mg "NO_REFUSAL" (0)
  g_LONGEST : GI mg "LONGEST" (64)
  g_MOST_BINDERS : GI mg "MOST_BINDERS" (3)
  g_MOST_CLAIMS : GI mg "MOST_CLAIMS" (8)
  g_NOT : GI mg "NOT" (33)
  g_REST : GI mg "REST" (37)
  g_BOTH : GI mg "BOTH" (38)
  g_OPENING : GI mg "OPENING" (40)
  g_CLOSING : GI mg "CLOSING" (41)
  g_PLUS : GI mg "PLUS" (43)
  g_ZERO : GI mg "ZERO" (48)
  g_LESS : GI mg "LESS" (60)
  g_EQUAL : GI mg "EQUAL" (61)
  g_IMPLIES : GI mg "IMPLIES" (62)
  g_ALL : GI mg "ALL" (65)
  g_SOME : GI mg "SOME" (69)
  g_CLAIM_START : GI mg "CLAIM_START" (91)
  g_CLAIM_END : GI mg "CLAIM_END" (93)
  g_EITHER : GI mg "EITHER" (124)
  g_UNKNOWNS : mg "UNKNOWNS" = some (.ref a.uU)
  t_UNKNOWNS : ∀ H : Hp, SqT K H a.uU [.int 120, .int 121, .int 122]
  k_UNKNOWNS : ∃ o : Obj, K.lookup a.uU = some o ∧ o.cls = .type "tuple" ∧ o.dict = none
  g_DIFFER : GI mg "DIFFER" (94)
  g_NOTHING : GI mg "NOTHING" (-1)
  g_NO_UNKNOWN : GI mg "NO_UNKNOWN" (-1)
  g_NUMBER : GI mg "NUMBER" (3)
  n_len : mg "len" = none
  n_any : mg "any" = none
  n_abs : mg "abs" = none
  n_max : mg "max" = none
  n_sorted : mg "sorted" = none
  n_list : mg "list" = none
  n_range : mg "range" = none
  exc : ExcC K a.C_NoText
theorem Fun.okN {P : Program} {w : World} {K : PySem.W.Frag} {mg : Str → Option Value} {base : Heap} {C : Addr} {x qual : Str} {st : Stmt} {f : Addr} {fd : FuncData} {N ps : List Str} {k : Nat} {sp : Sp} (F : Fun K x qual st f fd) (S : FnScope N ps (defScope st)) (len : ∀ vs H Q E, sp vs H Q E → vs.length = ps.length)
    (hbody : ∀ (cdv : Value) (A : Around) (outer : List Env) (s : Shared) (H : Hp) (vs : List V) (Q : VK) (E : XK), Room k (A.deeper (envOfC qual (defScope st) s.heap.objs.size f cdv)) → sp vs H Q E →
      ∃ t, PSs (cxOf (CXN P w C) P w K mg base N qual (defScope st) f cdv A outer s H E) (defBody st) t ∧ t { nx := fun _ H' => Q .non H', rt := Q } (start N vs) H) : FnOk P w K mg base (CXN P w C) (k + 1) f fd ps sp := by
  obtain ⟨oc, od, kV, doc, pm, an, cdv, ct, osl, rfl, lk, hcd⟩ := F.ex
  exact fn_of lk hcd S len fun A outer s H vs Q E hr hsp => hbody cdv A outer s H vs Q E hr hsp
end WS
end
section
set_option Elab.async false
set_option linter.all false
set_option maxRecDepth 100000
set_option maxHeartbeats 400000
namespace WS
open PySem PySem.Spec PyProof.Rows L2
section
variable {K : PySem.W.Frag} {σ : L2.St} {H : Hp} {Q : VK}
theorem fldV {i : Nat} {f : Str} {r C dx : Addr} {fs : List (Str × V)} {v : V} (h : σ[i]? = some (some (.ref r))) (at_ : H r = some (.ins C dx fs)) (c : Cls K C) (n : NoAttr K C f) (l : fs.lookup f = some v) (k : Q v H) : tFld K (tVar i) f σ H Q := ⟨_, h, r, C, dx, fs, v, rfl, at_, c, n, l, k⟩
theorem methV {i : Nat} {m : Str} {sp : Sp} {dvs : List V} {E : XK} {t : TA} {r C dx : Addr} {fs : List (Str × V)} (h : σ[i]? = some (some (.ref r))) (at_ : H r = some (.ins C dx fs)) (n : fs.lookup m = none) (k : t σ H fun vs H2 => sp (.ref r :: (vs ++ dvs)) H2 Q E) : tMeth C m sp dvs E (tVar i) t σ H Q := ⟨_, h, r, dx, fs, rfl, at_, n, k⟩
theorem ixL {q : Addr} {i : Int} {xs : List V} {v : V} (s : SqL K H q xs) (a : atI xs i = some v) (k : Q v H) : rIxL K (.ref q) (.int i) H Q := ⟨q, xs, i, v, rfl, rfl, s, a, k⟩
theorem ixT {q : Addr} {i : Int} {xs : List V} {v : V} (s : SqT K H q xs) (a : atI xs i = some v) (k : Q v H) : rIxT K (.ref q) (.int i) H Q := ⟨q, xs, i, v, rfl, rfl, s, a, k⟩
theorem inS {neg : Bool} {x : V} {p : Addr} {xs : List V} (s : SqT K H p xs) (f : flatV x = true) (g : xs.all flatV = true) (k : Q (.bl (if neg then !inV x xs else inV x xs)) H) : rIn K neg x (.ref p) H Q := ⟨p, xs, rfl, .inr s, f, g, k⟩
theorem apd {l : Addr} {xs : List V} {y : V} (h : H l = some (.lst xs)) (n : xs.length < sizeLine) (k : Q .non (upd H l (.lst (xs ++ [y])))) : rAppend (.ref l) [y] H Q := ⟨l, xs, y, rfl, rfl, h, n, k⟩
theorem popL {l : Addr} {xs : List V} {y : V} (h : H l = some (.lst xs)) (e : xs[xs.length - 1]? = some y) (k : Q y (upd H l (.lst xs.dropLast))) : rPop (.ref l) [] H Q := ⟨l, xs, y, rfl, rfl, h, e, k⟩
theorem i2 {g : Int → Int → V} {i j : Int} (k : Q (g i j) H) : rI0 g (.int i) (.int j) H Q := ⟨i, j, rfl, rfl, k⟩
theorem i2c {C : Int → Int → Prop} {g : Int → Int → V} {i j : Int} (c : C i j) (k : Q (g i j) H) : rI C g (.int i) (.int j) H Q := ⟨i, j, rfl, rfl, c, k⟩
theorem i2p {f : Int → Int → Int} {i j : Int} (k : Q (.int (f i j)) H) : ipI f (.int i) (.int j) H Q := ⟨i, j, rfl, rfl, k⟩
theorem tk {b : Bool} {R : Bool → Hp → Prop} (k : R b H) : ∃ c, V.bl b = .bl c ∧ R c H := ⟨b, rfl, k⟩
end
end WS
end
section
set_option Elab.async false
set_option linter.all false
set_option maxRecDepth 100000
set_option maxHeartbeats 1000000
namespace WS
open PySem PySem.Spec PyProof.Rows L2
open Sy15 (T Val put)
def v3l (s : V3) : List V := [.int s.x, .int s.y, .int s.z]
def ptl (v : Val) : List V := [.int (v 0 : Nat), .int (v 1 : Nat), .int (v 2 : Nat)]
def rLen (K : PySem.W.Frag) : List V → Hp → VK → Prop := fun xs H Q => ∃ p ys, xs = [.ref p] ∧ (SqL K H p ys ∨ SqT K H p ys) ∧ Q (.int ys.length) H
def rAbs : List V → Hp → VK → Prop := fun xs H Q => ∃ i, xs = [.int i] ∧ Q (.int (if i < 0 then -i else i)) H
def rMax : List V → Hp → VK → Prop := fun xs H Q => ∃ i j, xs = [.int i, .int j] ∧ Q (.int (if j > i then j else i)) H
def rListOf (K : PySem.W.Frag) : List V → Hp → VK → Prop := fun xs H Q => ∃ p ys, xs = [.ref p] ∧ (SqL K H p ys ∨ SqT K H p ys) ∧ ∀ l, H l = none → Q (.ref l) (upd H l (.lst ys))
def rAnyI (K : PySem.W.Frag) : List V → Hp → VK → Prop := fun vs H Q => ∃ (a : Addr) (ns : List Int), vs = [V.ref a] ∧ SqL K H a (ns.map V.int) ∧ Q (.bl (ns.any fun n => n != 0)) H
def rTIdx (K : PySem.W.Frag) : V → List V → Hp → VK → Prop := fun x xs H Q => ∃ (a : Addr) (i0 i1 i2 y : Int) (j : Nat), x = V.ref a ∧ xs = [V.int y] ∧ SqT K H a [.int i0, .int i1, .int i2] ∧
    ((i0 = y ∧ j = 0) ∨ (i0 ≠ y ∧ i1 = y ∧ j = 1) ∨ (i0 ≠ y ∧ i1 ≠ y ∧ i2 = y ∧ j = 2)) ∧ Q (.int (j : Nat)) H
def rCntI (K : PySem.W.Frag) : V → List V → Hp → VK → Prop := fun x xs H Q => ∃ (a : Addr) (ns : List Int) (y : Int), x = V.ref a ∧ xs = [V.int y] ∧ SqL K H a (ns.map V.int) ∧ Q (.int ((ns.countP fun i => decide (i = y) : Nat) : Int)) H
def rSortP (K : PySem.W.Frag) : List V → Hp → VK → Prop := fun vs H Q => ∃ (a : Addr) (ps : List Addr) (prs : List (Int × Int)), vs = [V.ref a] ∧ SqL K H a (ps.map V.ref) ∧ PairsAt K H ps prs ∧
    ∀ (ps' : List Addr) (prs' : List (Int × Int)) (p : Addr), PairsAt K H ps' prs' → prs'.Perm prs → prs'.Pairwise (fun x y => x.1 ≤ y.1) → H p = none → Q (.ref p) (upd H p (.lst (ps'.map V.ref)))
def bandF (q : Addr) (lo hi : Int) : List (Str × V) := [("slopes", .ref q), ("low", .int lo), ("high", .int hi)]
def olF (q : Addr) (p : Int) : List (Str × V) := [("bands", .ref q), ("period", .int p)]
def BandAt (C : Addr) (H : Hp) (v : V) (b : Band) : Prop := ∃ p dx q, v = .ref p ∧ H p = some (.ins C dx (bandF q b.lo b.hi)) ∧ H q = some (.lst (v3l b.s))
theorem BandAt.same {C : Addr} {H H' : Hp} (e : Same H H') {v : V} {b : Band} (h : BandAt C H v b) : BandAt C H' v b := by
  obtain ⟨p, dx, q, h1, h2, h3⟩ := h
  exact ⟨p, dx, q, h1, e _ _ h2, e _ _ h3⟩
abbrev BandsAt (C : Addr) (H : Hp) (vs : List V) (bs : List Band) : Prop := Paired (BandAt C H) vs bs
theorem BandsAt.same {C : Addr} {H H' : Hp} (e : Same H H') {vs : List V} {bs : List Band} (h : BandsAt C H vs bs) : BandsAt C H' vs bs := Paired.mapP h fun _ _ x => x.same e
theorem same_new {H : Hp} {a : Addr} {o : HO} (h : H a = none) : Same H (upd H a o) := fun b u e => by
  rw [upd_ne (ne_of_none e h)]; exact e
theorem ifT {c A B : Prop} [Decidable c] (h : c) (k : A) : if decide c = true then A else B := by rw [if_pos (by simpa using h)]; exact k
theorem ifF {c A B : Prop} [Decidable c] (h : ¬ c) (k : B) : if decide c = true then A else B := by rw [if_neg (by simpa using h)]; exact k
theorem ifEqT {x y : Int} {A B : Prop} (h : x = y) (k : A) : if decide (V.int x = V.int y) = true then A else B := ifT (congrArg V.int h) k
theorem ifEqF {x y : Int} {A B : Prop} (h : x ≠ y) (k : B) : if decide (V.int x = V.int y) = true then A else B := ifF (fun e => h (V.int.inj e)) k
theorem ifNeT {x y : Int} {A B : Prop} (h : x ≠ y) (k : A) : if (!decide (V.int x = V.int y)) = true then A else B := by rw [if_pos (by simpa using h)]; exact k
theorem ifNeF {x y : Int} {A B : Prop} (h : x = y) (k : B) : if (!decide (V.int x = V.int y)) = true then A else B := by rw [if_neg (by simpa using h)]; exact k
section
variable {P : Program} {w : World} {K : PySem.W.Frag} {mg : Str → Option Value} {base : Heap} {a : Adr}
def sp_Band_init (C : Addr) : Sp := fun vs H Q _ => ∃ (p dx q : Addr) (lo hi : Int), vs = [.ref p, .ref q, .int lo, .int hi] ∧ H p = some (.ins C dx []) ∧ Q .non (upd H p (.ins C dx (bandF q lo hi)))
@[reducible] def t_Band_init_0 (K : PySem.W.Frag) (a : Adr) (E : XK) (d : Nat) : TS := tSeq (sFld K (tVar 0) (tVar 2) "low") (sFld K (tVar 0) (tVar 3) "high")
@[reducible] def t_Band_init_1 (K : PySem.W.Frag) (a : Adr) (E : XK) (d : Nat) : TS := tSeq (sFld K (tVar 0) (tVar 1) "slopes") (t_Band_init_0 K a E d)
theorem ok_Band_init (T : Txt K mg a) : FnOk P w K mg base CX0 1 a.f_Band_init a.d_Band_init ["self", "slopes", "low", "high"] (sp_Band_init a.C_Band) := by
  refine T.f_Band_init.ok sc_Band_init (fun vs H Q E h => ?_) (fun cdv A outer s H vs Q E hr h => ?_)
  · obtain ⟨p, dx, q, lo, hi, rfl, _⟩ := h
    rfl
  · obtain ⟨p, dx, q, lo, hi, rfl, hp, k⟩ := h
    refine ⟨_, (pss_cons (ps_fld (pv 0) (pv 1) rfl)
        (pss_cons (ps_fld (pv 0) (pv 2) rfl)
        (pss_one (ps_fld (pv 0) (pv 3) rfl)))), ?_⟩
    show (t_Band_init_1 K a E 0 : TS) _ _ _
    refine ⟨_, rfl, _, rfl, p, _, dx, [], rfl, hp, T.c_Band, T.a_Band_slopes, (by show 0 < 1000; decide), ?_⟩
    refine ⟨_, rfl, _, rfl, p, _, dx, _, rfl, upd_same, T.c_Band, T.a_Band_low, (by show 1 < 1000; decide), ?_⟩
    refine ⟨_, rfl, _, rfl, p, _, dx, _, rfl, upd_same, T.c_Band, T.a_Band_high, (by show 2 < 1000; decide), ?_⟩
    rw [upd_upd, upd_upd]
    exact k
def sp_Outline_init (C : Addr) : Sp := fun vs H Q _ => ∃ (p dx q : Addr) (n : Int), vs = [.ref p, .ref q, .int n] ∧ H p = some (.ins C dx []) ∧ Q .non (upd H p (.ins C dx (olF q n)))
@[reducible] def t_Outline_init_0 (K : PySem.W.Frag) (a : Adr) (E : XK) (d : Nat) : TS := tSeq (sFld K (tVar 0) (tVar 1) "bands") (sFld K (tVar 0) (tVar 2) "period")
theorem ok_Outline_init (T : Txt K mg a) : FnOk P w K mg base CX0 1 a.f_Outline_init a.d_Outline_init ["self", "bands", "period"] (sp_Outline_init a.C_Outline) := by
  refine T.f_Outline_init.ok sc_Outline_init (fun vs H Q E h => ?_) (fun cdv A outer s H vs Q E hr h => ?_)
  · obtain ⟨p, dx, q, n, rfl, _⟩ := h
    rfl
  · obtain ⟨p, dx, q, n, rfl, hp, k⟩ := h
    refine ⟨_, (pss_cons (ps_fld (pv 0) (pv 1) rfl)
        (pss_one (ps_fld (pv 0) (pv 2) rfl))), ?_⟩
    show (t_Outline_init_0 K a E 0 : TS) _ _ _
    refine ⟨_, rfl, _, rfl, p, _, dx, [], rfl, hp, T.c_Outline, T.a_Outline_bands, (by show 0 < 1000; decide), ?_⟩
    refine ⟨_, rfl, _, rfl, p, _, dx, _, rfl, upd_same, T.c_Outline, T.a_Outline_period, (by show 1 < 1000; decide), ?_⟩
    rw [upd_upd]
    exact k
def sp_common_divisor : Sp := fun vs H Q _ => ∃ m n : Nat, vs = [.int m, .int n] ∧ Q (.int (Nat.gcd m n : Nat)) H
@[reducible] def t_common_divisor_0 (K : PySem.W.Frag) (a : Adr) (E : XK) (d : Nat) : TS := tSeq (tAsg (tVar 1) (gName 0)) (tAsg (tVar 2) (gName 1))
@[reducible] def t_common_divisor_1 (K : PySem.W.Frag) (a : Adr) (E : XK) (d : Nat) : TS := tSeq (tAsg (tOp (rI (fun _ j => 0 < j) fun i j => .int (i % j)) (tVar 0) (tVar 1)) (gName 2)) (t_common_divisor_0 K a E d)
@[reducible] def t_common_divisor_2 (K : PySem.W.Frag) (a : Adr) (E : XK) (d : Nat) : TS := tSeq (tWhile (tTest (tOp rNe (tVar 1) (tC (.int 0)))) (t_common_divisor_1 K a E d)) (tRet (tVar 0))
theorem ok_common_divisor (T : Txt K mg a) : FnOk P w K mg base CX0 1 a.f_common_divisor a.d_common_divisor ["a", "b"] sp_common_divisor := by
  refine T.f_common_divisor.ok sc_common_divisor (fun vs H Q E h => ?_) (fun cdv A outer s H vs Q E hr h => ?_)
  · obtain ⟨m, n, rfl, _⟩ := h
    rfl
  · obtain ⟨m, n, rfl, k⟩ := h
    refine ⟨_, (pss_cons (ps_while PassesOwn.never (pt_cmpR op_ne (pv 1) pe_int (nomark _)) (pss_cons (ps_set (i := 2) sc_common_divisor.nd rfl (Or.inl rfl) (pe_op op_mod (pv 0) (pv 1)))
        (pss_cons (ps_set (i := 0) sc_common_divisor.nd rfl (Or.inl rfl) (pv 1))
        (pss_one (ps_set (i := 1) sc_common_divisor.nd rfl (Or.inl rfl) (pv 2))))))
        (pss_one (ps_ret (pv 0)))), ?_⟩
    show (t_common_divisor_2 K a E 0 : TS) _ _ _
    refine ⟨fun c σ H' => H' = H ∧ ∃ (x y : Nat) (z : Option V), σ = [some (.int x), some (.int y), z] ∧ Nat.gcd x y = Nat.gcd m n ∧ y = c, ⟨n, rfl, m, n, none, rfl, rfl, rfl⟩, ?_⟩
    rintro c σ H' ⟨rfl, x, y, z, rfl, hg, rfl⟩
    refine ⟨_, rfl, rfl, _, rfl, ?_⟩
    by_cases hy : y = 0
    · subst hy
      refine iteNS rfl ?_
      refine ⟨_, rfl, ?_⟩
      rw [Nat.gcd_zero_right] at hg
      rw [hg]
      exact k
    · refine ifNeT (by (first | lia | omega)) ?_
      refine ⟨_, fun σ' H' q => q, ?_⟩
      first | refine ⟨_, rfl, _, rfl, i2c (by (first | lia | omega)) ?_⟩ | refine ⟨_, rfl, _, rfl, _, _, rfl, rfl, (by (first | lia | omega)), ?_⟩
      refine ⟨_, rfl, ?_⟩
      refine ⟨_, rfl, ?_⟩
      refine ⟨x % y, Nat.mod_lt _ (by (first | lia | omega)), rfl, y, x % y, _, rfl, ?_, rfl⟩
      rw [← hg, Nat.gcd_comm x y, Nat.gcd_rec y x, Nat.gcd_comm]
def sp_common_multiple : Sp := fun vs H Q _ => ∃ m n : Nat, vs = [.int m, .int n] ∧ 0 < m ∧ 0 < n ∧ m < 2 ^ 30 ∧ n < 2 ^ 30 ∧ Q (.int (Nat.lcm m n : Nat)) H
@[reducible] def t_common_multiple_0 (K : PySem.W.Frag) (a : Adr) (E : XK) (d : Nat) : TS := (tRet (tOp (rI CDiv fun i j => .int (i / j)) (tOp (rI CMul fun i j => .int (i * j)) (tVar 0) (tVar 1)) (tCall sp_common_divisor [] E0 (tCons (tVar 0) (tCons (tVar 1) tNil)))))
theorem ok_common_multiple (T : Txt K mg a) : FnOk P w K mg base CX0 2 a.f_common_multiple a.d_common_multiple ["a", "b"] sp_common_multiple := by
  have G_common_divisor : FnOk P w K mg base CX0 1 a.f_common_divisor a.d_common_divisor ["a", "b"] sp_common_divisor := ok_common_divisor T
  refine T.f_common_multiple.ok sc_common_multiple (fun vs H Q E h => ?_) (fun cdv A outer s H vs Q E hr h => ?_)
  · obtain ⟨m, n, rfl, _⟩ := h
    rfl
  · obtain ⟨m, n, rfl, hm, hn, hm2, hn2, k⟩ := h
    refine ⟨_, (pss_one (ps_ret (pe_op op_fdiv (pe_op op_mul (pv 0) (pv 1)) (pe_call G_common_divisor (hr.mono (by decide)) rfl T.m_common_divisor T.f_common_divisor.kp T.b_common_divisor .nil pass0 (pa_cons (pv 0) (pa_cons (pv 1) pa_nil)))))), ?_⟩
    show (t_common_multiple_0 K a E 0 : TS) _ _ _
    have g1 : 0 < Nat.gcd m n := Nat.gcd_pos_of_pos_left _ hm
    have g2 : Nat.gcd m n ≤ m := Nat.gcd_le_left _ hm
    first | refine ⟨_, rfl, _, rfl, i2c (.inl ⟨by (first | lia | omega), by (first | lia | omega)⟩) ⟨_, rfl, _, rfl, m, n, rfl, i2c (⟨by (first | lia | omega), by (first | lia | omega)⟩) ?_⟩⟩ | refine ⟨_, rfl, _, rfl, _, _, rfl, rfl, .inl ⟨by (first | lia | omega), by (first | lia | omega)⟩, _, rfl, _, rfl, m, n, rfl, _, _, rfl, rfl, ⟨by (first | lia | omega), by (first | lia | omega)⟩, ?_⟩
    have e : ((m : Int) * (n : Int)) / ((Nat.gcd m n : Nat) : Int) = ((Nat.lcm m n : Nat) : Int) := by
      unfold Nat.lcm
      rw [Int.natCast_ediv, Int.natCast_mul]
    rw [← e] at k
    exact k
def vdot (s : V3) (x y z : Int) : Int := s.x * x + s.y * y + s.z * z
theorem vdot_dot (s : V3) (v : Val) : vdot s (v 0 : Nat) (v 1 : Nat) (v 2 : Nat) = s.dot v := rfl
def sp_value_at (K : PySem.W.Frag) : Sp := fun vs H Q _ => ∃ (p q : Addr) (s : V3) (n x y z : Int), vs = [.ref p, .int n, .ref q] ∧ SqL K H p (v3l s) ∧ SqL K H q [.int x, .int y, .int z] ∧ s.le (2 ^ 30) ∧ Q (.int (vdot s x y z + n)) H
@[reducible] def t_value_at_0 (K : PySem.W.Frag) (a : Adr) (E : XK) (d : Nat) : TS := (tRet (tOp (rI0 fun i j => .int (i + j)) (tOp (rI0 fun i j => .int (i + j)) (tOp (rI0 fun i j => .int (i + j)) (tOp (rI CMul fun i j => .int (i * j)) (tOp (rIxL K) (tVar 0) (tC (.int 0))) (tOp (rIxL K) (tVar 2) (tC (.int 0)))) (tOp (rI CMul fun i j => .int (i * j)) (tOp (rIxL K) (tVar 0) (tC (.int 1))) (tOp (rIxL K) (tVar 2) (tC (.int 1))))) (tOp (rI CMul fun i j => .int (i * j)) (tOp (rIxL K) (tVar 0) (tC (.int 2))) (tOp (rIxL K) (tVar 2) (tC (.int 2))))) (tVar 1)))
theorem ok_value_at (T : Txt K mg a) : FnOk P w K mg base CX0 1 a.f_value_at a.d_value_at ["slopes", "number", "point"] (sp_value_at K) := by
  refine T.f_value_at.ok sc_value_at (fun vs H Q E h => ?_) (fun cdv A outer s H vs Q E hr h => ?_)
  · obtain ⟨p, q, s, n, x, y, z, rfl, _⟩ := h
    rfl
  · obtain ⟨p, q, s, n, x, y, z, rfl, hp, hq, hs, k⟩ := h
    refine ⟨_, (pss_one (ps_ret (pe_op op_add (pe_op op_add (pe_op op_add (pe_op op_mul (pe_ix ix_list (pv 0) pe_int (fun _ _ => rfl)) (pe_ix ix_list (pv 2) pe_int (fun _ _ => rfl))) (pe_op op_mul (pe_ix ix_list (pv 0) pe_int (fun _ _ => rfl)) (pe_ix ix_list (pv 2) pe_int (fun _ _ => rfl)))) (pe_op op_mul (pe_ix ix_list (pv 0) pe_int (fun _ _ => rfl)) (pe_ix ix_list (pv 2) pe_int (fun _ _ => rfl)))) (pv 1)))), ?_⟩
    show (t_value_at_0 K a E 0 : TS) _ _ _
    obtain ⟨h1, h2, h3⟩ := hs
    first | refine ⟨_, rfl, ixL hp rfl ⟨_, rfl, ixL hq rfl (i2c (.inl ⟨by (first | lia | omega), by (first | lia | omega)⟩) ?_)⟩⟩ | refine ⟨_, rfl, p, _, _, _, rfl, rfl, hp, rfl, _, rfl, q, _, _, _, rfl, rfl, hq, rfl, _, _, rfl, rfl, .inl ⟨by (first | lia | omega), by (first | lia | omega)⟩, ?_⟩
    first | refine ⟨_, rfl, ixL hp rfl ⟨_, rfl, ixL hq rfl (i2c (.inl ⟨by (first | lia | omega), by (first | lia | omega)⟩) (i2 ?_))⟩⟩ | refine ⟨_, rfl, p, _, _, _, rfl, rfl, hp, rfl, _, rfl, q, _, _, _, rfl, rfl, hq, rfl, _, _, rfl, rfl, .inl ⟨by (first | lia | omega), by (first | lia | omega)⟩, _, _, rfl, rfl, ?_⟩
    first | refine ⟨_, rfl, ixL hp rfl ⟨_, rfl, ixL hq rfl (i2c (.inl ⟨by (first | lia | omega), by (first | lia | omega)⟩) (i2 ?_))⟩⟩ | refine ⟨_, rfl, p, _, _, _, rfl, rfl, hp, rfl, _, rfl, q, _, _, _, rfl, rfl, hq, rfl, _, _, rfl, rfl, .inl ⟨by (first | lia | omega), by (first | lia | omega)⟩, _, _, rfl, rfl, ?_⟩
    first | exact ⟨_, rfl, i2 k⟩ | exact ⟨_, rfl, _, _, rfl, rfl, k⟩
def sp_is_join_so : Sp := fun vs H Q _ => ∃ (o : Nat) (x y : Bool), vs = [.int o, .bl x, .bl y] ∧ Q (.bl (if o = 38 then x && y else if o = 124 then x || y else if o = 62 then y || !x else !decide (x = y))) H
@[reducible] def t_is_join_so_0 (K : PySem.W.Frag) (a : Adr) (E : XK) (d : Nat) : TS := tSeq (tIfS (tTest (tOp rEq (tVar 0) (tC (.int (62))))) (tRet (tOrV (tVar 2) (tNotV (tVar 1)))) tNext) (tRet (tOp rNe (tVar 1) (tVar 2)))
@[reducible] def t_is_join_so_1 (K : PySem.W.Frag) (a : Adr) (E : XK) (d : Nat) : TS := tSeq (tIfS (tTest (tOp rEq (tVar 0) (tC (.int (124))))) (tRet (tOrV (tVar 1) (tVar 2))) tNext) (t_is_join_so_0 K a E d)
@[reducible] def t_is_join_so_2 (K : PySem.W.Frag) (a : Adr) (E : XK) (d : Nat) : TS := tSeq (tIfS (tTest (tOp rEq (tVar 0) (tC (.int (38))))) (tRet (tAndV (tVar 1) (tVar 2))) tNext) (t_is_join_so_1 K a E d)
theorem ok_is_join_so (T : Txt K mg a) : FnOk P w K mg base CX0 1 a.f_is_join_so a.d_is_join_so ["sign", "first", "second"] sp_is_join_so := by
  refine T.f_is_join_so.ok sc_is_join_so (fun vs H Q E h => ?_) (fun cdv A outer s H vs Q E hr h => ?_)
  · obtain ⟨o, x, y, rfl, _⟩ := h
    rfl
  · obtain ⟨o, x, y, rfl, k⟩ := h
    refine ⟨_, (pss_cons (ps_if (pt_cmpR op_eq (pv 0) (pe_gint rfl T.g_BOTH) (nomark _)) (pss_one (ps_ret (pe_and (pv 1) (pe_one (pv 2))))) pss_nil)
        (pss_cons (ps_if (pt_cmpR op_eq (pv 0) (pe_gint rfl T.g_EITHER) (nomark _)) (pss_one (ps_ret (pe_or (pv 1) (pe_one (pv 2))))) pss_nil)
        (pss_cons (ps_if (pt_cmpR op_eq (pv 0) (pe_gint rfl T.g_IMPLIES) (nomark _)) (pss_one (ps_ret (pe_or (pv 2) (pe_one (pe_not (pv 1)))))) pss_nil)
        (pss_one (ps_ret (pe_cmpR op_ne (pv 1) (pv 2) (nomark _))))))), ?_⟩
    show (t_is_join_so_2 K a E 0 : TS) _ _ _
    refine ⟨_, rfl, rfl, _, rfl, ?_⟩
    by_cases h1 : o = 38
    · subst h1
      refine iteT ?_
      rw [if_pos rfl] at k
      refine ⟨_, rfl, x, rfl, ?_⟩
      cases x with
      | true => exact iteT ⟨_, rfl, k⟩
      | false => exact iteF k
    · rw [if_neg h1] at k
      refine ifEqF (by (first | lia | omega)) ?_
      refine ⟨_, rfl, rfl, _, rfl, ?_⟩
      by_cases h2 : o = 124
      · subst h2
        refine iteT ?_
        rw [if_pos rfl] at k
        refine ⟨_, rfl, x, rfl, ?_⟩
        cases x with
        | true => exact iteT k
        | false => exact iteF ⟨_, rfl, k⟩
      · rw [if_neg h2] at k
        refine ifEqF (by (first | lia | omega)) ?_
        refine ⟨_, rfl, rfl, _, rfl, ?_⟩
        by_cases h3 : o = 62
        · subst h3
          refine iteT ?_
          rw [if_pos rfl] at k
          refine ⟨_, rfl, y, rfl, ?_⟩
          cases y with
          | true => exact iteT k
          | false => exact iteF ⟨_, rfl, x, rfl, k⟩
        · rw [if_neg h3] at k
          refine ifEqF (by (first | lia | omega)) ?_
          refine ⟨_, rfl, _, rfl, rfl, ?_⟩
          have e : decide (V.bl x = V.bl y) = decide (x = y) := by simp
          rw [← e] at k
          exact k
end
end WS
end
section
set_option Elab.async false
set_option linter.all false
set_option maxRecDepth 100000
set_option maxHeartbeats 1000000
namespace WS
open PySem PySem.Spec PyProof.Rows L2
open Sy15 (T Val put)
inductive CodeAt (H : Hp) (D : Addr → Prop) : List V → List Step → Prop
  | nil : CodeAt H D [] []
  | less {p q : Addr} {a b : Sy15.Sum} {xs : List V} {ss : List Step} : H p = some (.tup [.int 60, .ref q, .int (dcn a b)]) → H q = some (.lst (v3l (dsl a b))) → ¬ D p → ¬ D q → CodeAt H D xs ss → CodeAt H D (.ref p :: xs) (.less a b :: ss)
  | same {p q : Addr} {a b : Sy15.Sum} {xs : List V} {ss : List Step} : H p = some (.tup [.int 61, .ref q, .int (dcn a b)]) → H q = some (.lst (v3l (dsl a b))) → ¬ D p → ¬ D q → CodeAt H D xs ss → CodeAt H D (.ref p :: xs) (.same a b :: ss)
  | rest {p q : Addr} {a : Sy15.Sum} {m r : Nat} {xs : List V} {ss : List Step} : H p = some (.tup [.int 37, .ref q, .int (a.c : Nat), .int (m : Nat), .int (r : Nat)]) → H q = some (.lst [.int (a.x : Nat), .int (a.y : Nat), .int (a.z : Nat)]) → ¬ D p → ¬ D q → CodeAt H D xs ss → CodeAt H D (.ref p :: xs) (.rest a m r :: ss)
  | nt {p : Addr} {xs : List V} {ss : List Step} : H p = some (.tup [.int 33]) → ¬ D p → CodeAt H D xs ss → CodeAt H D (.ref p :: xs) (.nt :: ss)
  | jn {p : Addr} {o : Nat} {xs : List V} {ss : List Step} : isK o → H p = some (.tup [.int (o : Nat)]) → ¬ D p → CodeAt H D xs ss → CodeAt H D (.ref p :: xs) (.jn o :: ss)
  | bd {p b : Addr} {q u : Nat} {t : U} {ys xs : List V} {ss : List Step} : (q = 65 ∨ q = 69) → H p = some (.tup [.int (q : Nat), .int (u : Nat), .ref b]) → H b = some (.lst ys) → ¬ D p → ¬ D b → CodeAt H D ys (codeU t) → CodeAt H D xs ss → CodeAt H D (.ref p :: xs) (.bd q u t :: ss)
theorem CodeAt.mono {H H' : Hp} {D D' : Addr → Prop} (k : ∀ b o, H b = some o → ¬ D b → H' b = some o) (kd : ∀ b o, H b = some o → ¬ D b → ¬ D' b) {xs : List V} {ss : List Step} (h : CodeAt H D xs ss) : CodeAt H' D' xs ss := by
  induction h with
  | nil => exact .nil
  | less h1 h2 h3 h4 _ ih => exact .less (k _ _ h1 h3) (k _ _ h2 h4) (kd _ _ h1 h3) (kd _ _ h2 h4) ih
  | same h1 h2 h3 h4 _ ih => exact .same (k _ _ h1 h3) (k _ _ h2 h4) (kd _ _ h1 h3) (kd _ _ h2 h4) ih
  | rest h1 h2 h3 h4 _ ih => exact .rest (k _ _ h1 h3) (k _ _ h2 h4) (kd _ _ h1 h3) (kd _ _ h2 h4) ih
  | nt h1 h3 _ ih => exact .nt (k _ _ h1 h3) (kd _ _ h1 h3) ih
  | jn o h1 h3 _ ih => exact .jn o (k _ _ h1 h3) (kd _ _ h1 h3) ih
  | bd q h1 h2 h3 h4 _ _ ih1 ih2 => exact .bd q (k _ _ h1 h3) (k _ _ h2 h4) (kd _ _ h1 h3) (kd _ _ h2 h4) ih1 ih2
theorem CodeAt.append {H : Hp} {D : Addr → Prop} {xs ys : List V} {ss ts : List Step} (h : CodeAt H D xs ss) (g : CodeAt H D ys ts) : CodeAt H D (xs ++ ys) (ss ++ ts) := by
  induction h with
  | nil => exact g
  | less h1 h2 h3 h4 _ ih => exact .less h1 h2 h3 h4 ih
  | same h1 h2 h3 h4 _ ih => exact .same h1 h2 h3 h4 ih
  | rest h1 h2 h3 h4 _ ih => exact .rest h1 h2 h3 h4 ih
  | nt h1 h3 _ ih => exact .nt h1 h3 ih
  | jn o h1 h3 _ ih => exact .jn o h1 h3 ih
  | bd q h1 h2 h3 h4 c _ _ ih2 => exact .bd q h1 h2 h3 h4 c ih2
theorem CodeAt.length {H : Hp} {D : Addr → Prop} {xs : List V} {ss : List Step} (h : CodeAt H D xs ss) : xs.length = ss.length := by
  induction h with
  | nil => rfl
  | less _ _ _ _ _ ih => simp [ih]
  | same _ _ _ _ _ ih => simp [ih]
  | rest _ _ _ _ _ ih => simp [ih]
  | nt _ _ _ ih => simp [ih]
  | jn _ _ _ _ ih => simp [ih]
  | bd _ _ _ _ _ _ _ _ ih2 => simp [ih2]
def StepAt (H : Hp) (D : Addr → Prop) (v : V) : Step → Prop
  | .less a b => ∃ p q, v = .ref p ∧ H p = some (.tup [.int 60, .ref q, .int (dcn a b)]) ∧ H q = some (.lst (v3l (dsl a b)))
  | .same a b => ∃ p q, v = .ref p ∧ H p = some (.tup [.int 61, .ref q, .int (dcn a b)]) ∧ H q = some (.lst (v3l (dsl a b)))
  | .rest a m r => ∃ p q, v = .ref p ∧ H p = some (.tup [.int 37, .ref q, .int (a.c : Nat), .int (m : Nat), .int (r : Nat)]) ∧ H q = some (.lst [.int (a.x : Nat), .int (a.y : Nat), .int (a.z : Nat)])
  | .nt => ∃ p, v = .ref p ∧ H p = some (.tup [.int 33])
  | .jn o => ∃ p, v = .ref p ∧ isK o ∧ H p = some (.tup [.int (o : Nat)])
  | .bd q u t => ∃ p b ys, v = .ref p ∧ (q = 65 ∨ q = 69) ∧ H p = some (.tup [.int (q : Nat), .int (u : Nat), .ref b]) ∧ H b = some (.lst ys) ∧ CodeAt H D ys (codeU t)
theorem CodeAt.get {H : Hp} {D : Addr → Prop} {xs : List V} {ss : List Step} (h : CodeAt H D xs ss) : ∀ {i : Nat} {x : V}, xs[i]? = some x → ∃ s, ss[i]? = some s ∧ StepAt H D x s := by
  induction h with
  | nil => intro i x e; simp at e
  | less h1 h2 _ _ _ ih =>
    intro i x e
    cases i with
    | zero => cases (Option.some.inj e); exact ⟨_, rfl, _, _, rfl, h1, h2⟩
    | succ i => exact ih (i := i) e
  | same h1 h2 _ _ _ ih =>
    intro i x e
    cases i with
    | zero => cases (Option.some.inj e); exact ⟨_, rfl, _, _, rfl, h1, h2⟩
    | succ i => exact ih (i := i) e
  | rest h1 h2 _ _ _ ih =>
    intro i x e
    cases i with
    | zero => cases (Option.some.inj e); exact ⟨_, rfl, _, _, rfl, h1, h2⟩
    | succ i => exact ih (i := i) e
  | nt h1 _ _ ih =>
    intro i x e
    cases i with
    | zero => cases (Option.some.inj e); exact ⟨_, rfl, _, rfl, h1⟩
    | succ i => exact ih (i := i) e
  | jn o h1 _ _ ih =>
    intro i x e
    cases i with
    | zero => cases (Option.some.inj e); exact ⟨_, rfl, _, rfl, o, h1⟩
    | succ i => exact ih (i := i) e
  | bd q h1 h2 _ _ c _ _ ih =>
    intro i x e
    cases i with
    | zero => cases (Option.some.inj e); exact ⟨_, rfl, _, _, _, rfl, q, h1, h2, c⟩
    | succ i => exact ih (i := i) e
abbrev D0 : Addr → Prop := fun _ => False
theorem CodeAt.same' {H H' : Hp} (e : Same H H') {xs : List V} {ss : List Step} (h : CodeAt H D0 xs ss) : CodeAt H' D0 xs ss := h.mono (fun b o q _ => e b o q) fun _ _ _ q => q
def BigS : Step → Prop
  | .less a b => (dsl a b).le 576
  | .same a b => (dsl a b).le 576
  | .rest a m _ => (⟨a.x, a.y, a.z⟩ : V3).le 576 ∧ 2 ≤ m ∧ m ≤ 9
  | .nt => True
  | .jn _ => True
  | .bd _ u t => u < 3 ∧ Fit t
def Fine (t : T) : Prop := WF t ∧ Big 64 t ∧ (Sy15Neutral.brackets t).length ≤ 64 ∧ (Sy15Neutral.depth t ≤ 1 ∨ (Sy15Neutral.depth t ≤ 2 ∧ Sy15Neutral.small t = true))
theorem Fit.fine {t : T} (h : Fit t) : Fine t := ⟨h.1, h.2.1, h.2.2.1, by have := h.2.2.2; (first | lia | omega)⟩
theorem fine_two (s t u : T) (o : Nat) (e : Sy15Neutral.brackets u = Sy15Neutral.brackets s ++ Sy15Neutral.brackets t) (ed : Sy15Neutral.depth u = max (Sy15Neutral.depth s) (Sy15Neutral.depth t)) (wf : WF s ∧ WF t) (h : Fine u)
    (i1 : Fine s → ∀ x ∈ code s, BigS x ∧ ∀ q u b, x = .bd q u b → Sy15Neutral.depth b + 1 ≤ Sy15Neutral.depth s) (i2 : Fine t → ∀ x ∈ code t, BigS x ∧ ∀ q u b, x = .bd q u b → Sy15Neutral.depth b + 1 ≤ Sy15Neutral.depth t) :
    ∀ x ∈ code s ++ (code t ++ [.jn o]), BigS x ∧ ∀ q w b, x = .bd q w b → Sy15Neutral.depth b + 1 ≤ Sy15Neutral.depth u := by
  have lf : Fine s ∧ Fine t := by
    obtain ⟨_, hb, hl, hd⟩ := h
    have hs : Sy15Neutral.small u = true → Sy15Neutral.small s = true ∧ Sy15Neutral.small t = true := small_left e
    rw [e, List.length_append] at hl
    refine ⟨⟨wf.1, fun x hx => hb x (by rw [e]; simp [hx]), by (first | lia | omega), ?_⟩, ⟨wf.2, fun x hx => hb x (by rw [e]; simp [hx]), by (first | lia | omega), ?_⟩⟩
    · rcases hd with hd | ⟨hd, q⟩
      · left; (first | lia | omega)
      · right; exact ⟨by (first | lia | omega), (hs q).1⟩
    · rcases hd with hd | ⟨hd, q⟩
      · left; (first | lia | omega)
      · right; exact ⟨by (first | lia | omega), (hs q).2⟩
  intro x hx
  obtain ⟨f1, f2⟩ := lf
  rcases List.mem_append.mp hx with z | z
  · have q := i1 f1 x z
    exact ⟨q.1, fun a b c d => by have := q.2 a b c d; (first | lia | omega)⟩
  · rcases List.mem_append.mp z with z | z
    · have q := i2 f2 x z
      exact ⟨q.1, fun a b c d => by have := q.2 a b c d; (first | lia | omega)⟩
    · simp at z
      subst z
      exact ⟨trivial, fun a b c d => by cases d⟩
theorem fine_bnd (u : Nat) (t : U) (p : T) (q : Nat) (e : Sy15Neutral.brackets p = Sy15Neutral.brackets t) (ed : Sy15Neutral.depth p = Sy15Neutral.depth t + 1) (hu : u < 3) (wf : WF t) (h : Fine p) : ∀ x ∈ [Step.bd q u t], BigS x ∧ ∀ q w b, x = .bd q w b → Sy15Neutral.depth b + 1 ≤ Sy15Neutral.depth p := by
  intro x hx
  simp at hx
  subst hx
  obtain ⟨_, hb, hl, hd⟩ := h
  have hs : Sy15Neutral.small p = true → Sy15Neutral.small t = true := by unfold Sy15Neutral.small; rw [e]; exact id
  refine ⟨⟨hu, wf, fun x hx => hb x (by rw [e]; exact hx), by rw [← e]; exact hl, ?_⟩, fun a b c d => by cases d; (first | lia | omega)⟩
  rcases hd with hd | ⟨hd, z⟩
  · left; (first | lia | omega)
  · by_cases h0 : Sy15Neutral.depth t = 0
    · left; exact h0
    · right; exact ⟨by (first | lia | omega), hs z⟩
theorem fine_code : ∀ {t : T}, Fine t → ∀ s ∈ code t, BigS s ∧ ∀ q u b, s = .bd q u b → Sy15Neutral.depth b + 1 ≤ Sy15Neutral.depth t := by
  intro t
  induction t with
  | less a b =>
    intro h x hx
    simp [code] at hx
    subst hx
    have q := h.2.1 (a, b, 0) (by simp [Sy15Neutral.brackets])
    simp only at q
    refine ⟨?_, fun a b c d => by cases d⟩
    show (dsl a b).le 576
    simp only [V3.le, dsl]
    (first | lia | omega)
  | same a b =>
    intro h x hx
    simp [code] at hx
    subst hx
    have q := h.2.1 (a, b, 0) (by simp [Sy15Neutral.brackets])
    simp only at q
    refine ⟨?_, fun a b c d => by cases d⟩
    show (dsl a b).le 576
    simp only [V3.le, dsl]
    (first | lia | omega)
  | rest a m r =>
    intro h x hx
    simp [code] at hx
    subst hx
    have q := h.2.1 (a, ⟨0, 0, 0, 0⟩, m) (by simp [Sy15Neutral.brackets])
    simp only at q
    have wf := h.1
    simp only [WF] at wf
    refine ⟨⟨?_, by (first | lia | omega), q.2.2⟩, fun a b c d => by cases d⟩
    simp only [V3.le]
    (first | lia | omega)
  | not t ih =>
    intro h x hx
    rcases List.mem_append.mp hx with z | z
    · exact ih h x z
    · simp at z
      subst z
      exact ⟨trivial, fun a b c d => by cases d⟩
  | and s t ihs iht => intro h; exact fine_two s t _ 38 rfl rfl h.1 h ihs iht
  | or s t ihs iht => intro h; exact fine_two s t _ 124 rfl rfl h.1 h ihs iht
  | then_ s t ihs iht => intro h; exact fine_two s t _ 62 rfl rfl h.1 h ihs iht
  | all u t ih => intro h; exact fine_bnd u (.of t) _ 65 rfl rfl h.1.1 h.1.2 h
  | some_ u t ih => intro h; exact fine_bnd u (.of t) _ 69 rfl rfl h.1.1 h.1.2 h
theorem fine_codeU : ∀ {t : U}, Fine t → ∀ s ∈ codeU t, BigS s ∧ ∀ q u b, s = .bd q u b → Sy15Neutral.depth b + 1 ≤ Sy15Neutral.depth t
  | .of _, h => fine_code h
  | .diff s t, h => fine_two s t _ 94 rfl rfl h.1 h fine_code fine_code
  | .ex u b, h => fine_bnd u b _ 69 rfl rfl h.1.1 h.1.2 h
section
variable {P : Program} {w : World} {K : PySem.W.Frag} {mg : Str → Option Value} {base : Heap} {a : Adr}
theorem le_mono {s : V3} {S S' : Int} (h : s.le S) (hS : S ≤ S') : s.le S' := by
  unfold V3.le at *
  (first | lia | omega)
def clm (v : Val) : Step → Prop
  | .less a b => a.of_ v < b.of_ v
  | .same a b => a.of_ v = b.of_ v
  | .rest a m r => a.of_ v % m = r
  | _ => False
def isClm : Step → Bool
  | .less _ _ => true
  | .same _ _ => true
  | .rest _ _ _ => true
  | _ => false
def sp_is_claim_so (K : PySem.W.Frag) : Sp := fun vs H Q _ => ∃ (x : V) (q : Addr) (s : Step) (v : Val), vs = [x, .ref q] ∧ StepAt H D0 x s ∧ isClm s = true ∧ BigS s ∧ SqL K H q (ptl v) ∧ Q (.bl (tB (clm v s))) H
@[reducible] def t_is_claim_so_0 (K : PySem.W.Frag) (a : Adr) (E : XK) (d : Nat) : TS := (tRet (tOp rEq (tOp (rI (fun _ j => 0 < j) fun i j => .int (i % j)) (tVar 2) (tOp (rIxT K) (tVar 0) (tC (.int 3)))) (tOp (rIxT K) (tVar 0) (tC (.int 4)))))
@[reducible] def t_is_claim_so_1 (K : PySem.W.Frag) (a : Adr) (E : XK) (d : Nat) : TS := tSeq (tIfS (tTest (tOp rEq (tOp (rIxT K) (tVar 0) (tC (.int 0))) (tC (.int (61))))) (tRet (tOp rEq (tVar 2) (tC (.int 0)))) tNext) (t_is_claim_so_0 K a E d)
@[reducible] def t_is_claim_so_2 (K : PySem.W.Frag) (a : Adr) (E : XK) (d : Nat) : TS := (tRet (tOp (rI0 fun i j => .bl (decide (i < j))) (tVar 2) (tC (.int 0))))
@[reducible] def t_is_claim_so_3 (K : PySem.W.Frag) (a : Adr) (E : XK) (d : Nat) : TS := tSeq (tIfS (tTest (tOp rEq (tOp (rIxT K) (tVar 0) (tC (.int 0))) (tC (.int (60))))) (t_is_claim_so_2 K a E d) tNext) (t_is_claim_so_1 K a E d)
@[reducible] def t_is_claim_so_4 (K : PySem.W.Frag) (a : Adr) (E : XK) (d : Nat) : TS := tSeq (tAsg (tCall (sp_value_at K) [] E0 (tCons (tOp (rIxT K) (tVar 0) (tC (.int 1))) (tCons (tOp (rIxT K) (tVar 0) (tC (.int 2))) (tCons (tVar 1) tNil)))) (gName 2)) (t_is_claim_so_3 K a E d)
theorem ok_is_claim_so (T : Txt K mg a) : FnOk P w K mg base CX0 2 a.f_is_claim_so a.d_is_claim_so ["step", "point"] (sp_is_claim_so K) := by
  have G_value_at : FnOk P w K mg base CX0 1 a.f_value_at a.d_value_at ["slopes", "number", "point"] (sp_value_at K) := ok_value_at T
  refine T.f_is_claim_so.ok sc_is_claim_so (fun vs H Q E h => ?_) (fun cdv A outer s H vs Q E hr h => ?_)
  · obtain ⟨x, q, s, v, rfl, _⟩ := h
    rfl
  · obtain ⟨x, q, s, v, rfl, hs, hc, hb, hq, k⟩ := h
    refine ⟨_, (pss_cons (ps_set (i := 2) sc_is_claim_so.nd rfl (Or.inl rfl) (pe_call G_value_at (hr.mono (by decide)) rfl T.m_value_at T.f_value_at.kp T.b_value_at .nil pass0 (pa_cons (pe_ix ix_tup (pv 0) pe_int (fun _ _ => rfl)) (pa_cons (pe_ix ix_tup (pv 0) pe_int (fun _ _ => rfl)) (pa_cons (pv 1) pa_nil)))))
        (pss_cons (ps_if (pt_cmpR op_eq (pe_ix ix_tup (pv 0) pe_int (fun _ _ => rfl)) (pe_gint rfl T.g_LESS) (nomark _)) (pss_one (ps_ret (pe_cmpR op_lt (pv 2) pe_int (nomark _)))) pss_nil)
        (pss_cons (ps_if (pt_cmpR op_eq (pe_ix ix_tup (pv 0) pe_int (fun _ _ => rfl)) (pe_gint rfl T.g_EQUAL) (nomark _)) (pss_one (ps_ret (pe_cmpR op_eq (pv 2) pe_int (nomark _)))) pss_nil)
        (pss_one (ps_ret (pe_cmpR op_eq (pe_op op_mod (pv 2) (pe_ix ix_tup (pv 0) pe_int (fun _ _ => rfl))) (pe_ix ix_tup (pv 0) pe_int (fun _ _ => rfl)) (nomark _))))))), ?_⟩
    show (t_is_claim_so_4 K a E 0 : TS) _ _ _
    cases s with
    | less sa sb =>
      obtain ⟨p, sl, rfl, hp, hsl⟩ := hs
      first | refine ⟨_, rfl, ixT (SqT.of hp) rfl ⟨_, rfl, ixT (SqT.of hp) rfl ⟨_, rfl, ?_⟩⟩⟩ | refine ⟨_, rfl, p, _, _, _, rfl, rfl, SqT.of hp, rfl, _, rfl, p, _, _, _, rfl, rfl, SqT.of hp, rfl, _, rfl, ?_⟩
      refine ⟨sl, q, dsl sa sb, dcn sa sb, _, _, _, rfl, SqL.of hsl, hq, le_mono hb (by decide), ?_⟩
      first | refine ⟨_, rfl, ixT (SqT.of hp) rfl ⟨rfl, _, rfl, ?_⟩⟩ | refine ⟨_, rfl, p, _, _, _, rfl, rfl, SqT.of hp, rfl, rfl, _, rfl, ?_⟩
      refine ifEqT rfl ?_
      first | refine ⟨_, rfl, i2 ?_⟩ | refine ⟨_, rfl, _, _, rfl, rfl, ?_⟩
      have e : decide (vdot (dsl sa sb) (v 0 : Nat) (v 1 : Nat) (v 2 : Nat) + dcn sa sb < 0) = tB (clm v (.less sa sb)) := tB_eq (by
        rw [decide_eq_true_iff, vdot_dot, ← dif_dsl]
        show _ ↔ sa.of_ v < sb.of_ v
        (first | lia | omega))
      rw [← e] at k
      exact k
    | same sa sb =>
      obtain ⟨p, sl, rfl, hp, hsl⟩ := hs
      first | refine ⟨_, rfl, ixT (SqT.of hp) rfl ⟨_, rfl, ixT (SqT.of hp) rfl ⟨_, rfl, ?_⟩⟩⟩ | refine ⟨_, rfl, p, _, _, _, rfl, rfl, SqT.of hp, rfl, _, rfl, p, _, _, _, rfl, rfl, SqT.of hp, rfl, _, rfl, ?_⟩
      refine ⟨sl, q, dsl sa sb, dcn sa sb, _, _, _, rfl, SqL.of hsl, hq, le_mono hb (by decide), ?_⟩
      first | refine ⟨_, rfl, ixT (SqT.of hp) rfl ⟨rfl, _, rfl, ?_⟩⟩ | refine ⟨_, rfl, p, _, _, _, rfl, rfl, SqT.of hp, rfl, rfl, _, rfl, ?_⟩
      refine ifEqF (by decide) ?_
      first | refine ⟨_, rfl, ixT (SqT.of hp) rfl ⟨rfl, _, rfl, ?_⟩⟩ | refine ⟨_, rfl, p, _, _, _, rfl, rfl, SqT.of hp, rfl, rfl, _, rfl, ?_⟩
      refine ifEqT rfl ?_
      refine ⟨_, rfl, rfl, ?_⟩
      have e : decide (V.int (vdot (dsl sa sb) (v 0 : Nat) (v 1 : Nat) (v 2 : Nat) + dcn sa sb) = V.int 0) = tB (clm v (.same sa sb)) := tB_eq (by
        rw [decide_eq_true_iff, V.int.injEq, vdot_dot, ← dif_dsl]
        show _ ↔ sa.of_ v = sb.of_ v
        (first | lia | omega))
      rw [← e] at k
      exact k
    | rest sa m r =>
      obtain ⟨p, sl, rfl, hp, hsl⟩ := hs
      obtain ⟨hb1, hb2, hb3⟩ := hb
      first | refine ⟨_, rfl, ixT (SqT.of hp) rfl ⟨_, rfl, ixT (SqT.of hp) rfl ⟨_, rfl, ?_⟩⟩⟩ | refine ⟨_, rfl, p, _, _, _, rfl, rfl, SqT.of hp, rfl, _, rfl, p, _, _, _, rfl, rfl, SqT.of hp, rfl, _, rfl, ?_⟩
      refine ⟨sl, q, ⟨sa.x, sa.y, sa.z⟩, (sa.c : Nat), _, _, _, rfl, SqL.of hsl, hq, le_mono hb1 (by decide), ?_⟩
      first | refine ⟨_, rfl, ixT (SqT.of hp) rfl ⟨rfl, _, rfl, ?_⟩⟩ | refine ⟨_, rfl, p, _, _, _, rfl, rfl, SqT.of hp, rfl, rfl, _, rfl, ?_⟩
      refine ifEqF (by decide) ?_
      first | refine ⟨_, rfl, ixT (SqT.of hp) rfl ⟨rfl, _, rfl, ?_⟩⟩ | refine ⟨_, rfl, p, _, _, _, rfl, rfl, SqT.of hp, rfl, rfl, _, rfl, ?_⟩
      refine ifEqF (by decide) ?_
      first | refine ⟨_, rfl, _, rfl, ixT (SqT.of hp) rfl (i2c (by show (0 : Int) < (m : Nat); (first | lia | omega)) ?_)⟩ | refine ⟨_, rfl, _, rfl, p, _, _, _, rfl, rfl, SqT.of hp, rfl, _, _, rfl, rfl, (by show (0 : Int) < (m : Nat); (first | lia | omega)), ?_⟩
      first | refine ⟨_, rfl, ixT (SqT.of hp) rfl ⟨rfl, ?_⟩⟩ | refine ⟨_, rfl, p, _, _, _, rfl, rfl, SqT.of hp, rfl, rfl, ?_⟩
      have e : decide (V.int ((vdot ⟨sa.x, sa.y, sa.z⟩ (v 0 : Nat) (v 1 : Nat) (v 2 : Nat) + ((sa.c : Nat) : Int)) % ((m : Nat) : Int)) = V.int ((r : Nat) : Int)) = tB (clm v (.rest sa m r)) := tB_eq (by
        rw [decide_eq_true_iff, V.int.injEq, vdot_dot, ← of_dot]
        show _ ↔ sa.of_ v % m = r
        (first | lia | omega))
      rw [← e] at k
      exact k
    | nt => cases hc
    | jn o => cases hc
    | bd q u t => cases hc
end
end WS
end
section
set_option Elab.async false
set_option linter.all false
set_option maxRecDepth 100000
set_option maxHeartbeats 1000000
namespace WS
open PySem PySem.Spec PyProof.Rows L2
open Sy15 (T Val put)
theorem take_snoc {α : Type} : ∀ {l : List α} {i : Nat} {x : α}, l[i]? = some x → l.take (i + 1) = l.take i ++ [x]
  | [], i, x, h => by simp at h
  | b :: l, 0, x, h => by
    have e : b = x := Option.some.inj h
    subst e
    rfl
  | b :: l, i + 1, x, h => by
    have ih := take_snoc (l := l) (i := i) (x := x) h
    show b :: l.take (i + 1) = b :: l.take i ++ [x]
    rw [ih]
    rfl
theorem v3_at (s : V3) {u : Nat} (hu : u < 3) : (v3l s)[u]? = some (.int (s.get u)) := by
  rcases lt3 hu with rfl | rfl | rfl <;> rfl
theorem v3_ix (s : V3) {u : Nat} (hu : u < 3) : atI (v3l s) (u : Int) = some (.int (s.get u)) := atI_nat (v3_at s hu)
theorem v3_len (s : V3) : (v3l s).length = 3 := rfl
theorem v3_of {s : V3} {i : Nat} {x : V} (h : (v3l s)[i]? = some x) : i < 3 ∧ x = .int (s.get i) := by
  have hi : i < 3 := (List.getElem?_eq_some_iff.mp h).1
  exact ⟨hi, (Option.some.inj ((v3_at s hi).symm.trans h)).symm⟩
theorem line_big {n : Nat} (h : n ≤ 1000000) : n < sizeLine := Nat.lt_of_le_of_lt h (by decide)
theorem made {H : Hp} {x dx C : Addr} {fs : List (Str × V)} (nx : H x = none) (nd : H dx = none) (ne : dx ≠ x) :
    Same H (upd (upd (upd H dx (.own x)) x (.ins C dx [])) x (.ins C dx fs)) ∧ (upd (upd (upd H dx (.own x)) x (.ins C dx [])) x (.ins C dx fs)) x = some (.ins C dx fs) := by
  refine ⟨fun b o e => ?_, upd_same⟩
  rw [upd_upd, upd_ne (ne_of_none e nx), upd_ne (ne_of_none e nd)]
  exact e
section
variable {P : Program} {w : World} {K : PySem.W.Frag} {mg : Str → Option Value} {base : Heap} {a : Adr}
def sp_rising (C : Addr) : Sp := fun vs H Q _ => ∃ (v : V) (u : Nat) (b : Band), vs = [v, .int (u : Nat)] ∧ u < 3 ∧ BandAt C H v b ∧ ∀ v' H', Same H H' → BandAt C H' v' (rising u b) → Q v' H'
@[reducible] def t_rising_0 (K : PySem.W.Frag) (a : Adr) (E : XK) (d : Nat) : TS := (tRet (tMake a.C_Band (sp_Band_init a.C_Band) [] E0 (tCons (tLc (iList K (tFld K (tVar 0) "slopes")) (gName 2) tYes (tUn (rU fun i => .int (-i)) (tVar 2)) [2]) (tCons (tUn (rU fun i => .int (-i)) (tFld K (tVar 0) "high")) (tCons (tUn (rU fun i => .int (-i)) (tFld K (tVar 0) "low")) tNil)))))
@[reducible] def t_rising_1 (K : PySem.W.Frag) (a : Adr) (E : XK) (d : Nat) : TS := tSeq (tIfS (tTest (tOp (rI0 fun i j => .bl (decide (j < i))) (tOp (rIxL K) (tFld K (tVar 0) "slopes") (tVar 1)) (tC (.int 0)))) (tRet (tVar 0)) tNext) (t_rising_0 K a E d)
theorem ok_rising (T : Txt K mg a) : FnOk P w K mg base CX0 3 a.f_rising a.d_rising ["band", "unknown"] (sp_rising a.C_Band) := by
  have G_Band_init : FnOk P w K mg base CX0 1 a.f_Band_init a.d_Band_init ["self", "slopes", "low", "high"] (sp_Band_init a.C_Band) := ok_Band_init T
  refine T.f_rising.ok sc_rising (fun vs H Q E h => ?_) (fun cdv A outer s H vs Q E hr h => ?_)
  · obtain ⟨v, u, b, rfl, _⟩ := h
    rfl
  · obtain ⟨v, u, b, rfl, hu, ⟨p, dx, q, rfl, hp, hq⟩, k⟩ := h
    refine ⟨_, (pss_cons (ps_if (pt_cmpR op_gt (pe_ix ix_list (pe_fld (pv 0) (by rfl)) (pv 1) (fun _ _ => rfl)) pe_int (nomark _)) (pss_one (ps_ret (pv 0))) pss_nil)
        (pss_one (ps_ret (pe_make T.k_Band G_Band_init (hr.mono (by decide)) rfl T.m_Band T.b_Band_init .nil pass0 (pa_cons (pe_lc rfl sc_rising.nd (pi_list (pe_fld (pv 0) (by rfl))) (blkOk_by (own := [("slope", 2)]) (by rfl)) (fun _ _ _ _ _ => (pg_name (i := 2) sc_rising.nd rfl (Or.inl rfl))) (fun _ _ _ _ _ => pts_nil) (fun _ _ _ _ _ => (pe_un un_neg (pv 2)))) (pa_cons (pe_un un_neg (pe_fld (pv 0) (by rfl))) (pa_cons (pe_un un_neg (pe_fld (pv 0) (by rfl))) pa_nil))))))), ?_⟩
    show (t_rising_1 K a E 0 : TS) _ _ _
    first | refine fldV rfl hp T.c_Band T.a_Band_slopes rfl ⟨_, rfl, ixL (SqL.of hq) (v3_ix b.s hu) (i2 ⟨_, rfl, ?_⟩)⟩ | refine ⟨_, rfl, p, _, dx, _, _, rfl, hp, T.c_Band, T.a_Band_slopes, rfl, _, rfl, q, _, _, _, rfl, rfl, SqL.of hq, v3_ix b.s hu, _, _, rfl, rfl, _, rfl, ?_⟩
    by_cases hpos : 0 < b.s.get u
    · refine ifT hpos ⟨_, rfl, ?_⟩
      refine k _ _ (Same.refl H) ?_
      unfold rising
      rw [if_pos hpos]
      exact ⟨p, dx, q, rfl, hp, hq⟩
    · refine ifF hpos ?_
      first | refine fldV rfl hp T.c_Band T.a_Band_slopes rfl ⟨q, rfl, ⟨_, SqL.of hq⟩, fun D hD => ?_⟩ | refine ⟨_, rfl, p, _, dx, _, _, rfl, hp, T.c_Band, T.a_Band_slopes, rfl, q, rfl, ⟨_, SqL.of hq⟩, fun D hD => ?_⟩
      refine lc_list (K := K) (a := q) (xs := v3l b.s) (fun i H' => H' = upd H D (.lst ((v3l b.s.neg).take i))) rfl (fun i H' _ e => by subst e; exact SqL.of (by rw [upd_ne (ne_of_none hq hD)]; exact hq)) ?_ ?_
      · rintro i x H' hx rfl
        obtain ⟨hi, rfl⟩ := v3_of hx
        refine ⟨rfl, ?_⟩
        refine ⟨_, rfl, _, rfl, _, upd_same, line_big (by rw [List.length_take, v3_len]; (first | lia | omega)), ?_⟩
        rw [upd_upd, take_snoc (v3_at b.s.neg hi), V3.get_neg]
      · rintro H' rfl
        have s1 : Same H (upd H D (.lst ((v3l b.s.neg).take 3))) := same_new hD
        first | refine fldV rfl (s1 _ _ hp) T.c_Band T.a_Band_high rfl ⟨_, rfl, ?_⟩ | refine ⟨_, rfl, p, _, dx, _, _, rfl, s1 _ _ hp, T.c_Band, T.a_Band_high, rfl, _, rfl, ?_⟩
        first | refine fldV rfl (s1 _ _ hp) T.c_Band T.a_Band_low rfl ⟨_, rfl, ?_⟩ | refine ⟨_, rfl, p, _, dx, _, _, rfl, s1 _ _ hp, T.c_Band, T.a_Band_low, rfl, _, rfl, ?_⟩
        intro x dx' nx nd ne
        refine ⟨x, dx', D, _, _, rfl, upd_same, rfl, ?_⟩
        obtain ⟨s2, e2⟩ := made (C := a.C_Band) (fs := bandF D (-b.hi) (-b.lo)) nx nd ne
        refine k _ _ (s1.trans s2) ?_
        unfold rising
        rw [if_neg hpos]
        exact ⟨x, dx', D, rfl, e2, s2 _ _ upd_same⟩
def sp_put_in (C : Addr) : Sp := fun vs H Q _ => ∃ (v1 v2 : V) (u sc per : Nat) (st b : Band), vs = [v1, v2, .int (u : Nat), .int (sc : Nat), .int (per : Nat)] ∧ u < 3 ∧ BandAt C H v1 st ∧ BandAt C H v2 b ∧ sc ≤ 6 ∧ per ≤ 72 ∧ 0 < st.s.get u ∧ BandB 3 60 st ∧ BandB 3 60 b ∧
  ∀ v' H', Same H H' → BandAt C H' v' (putIn u sc per st b) → Q v' H'
@[reducible] def t_put_in_0 (K : PySem.W.Frag) (a : Adr) (E : XK) (d : Nat) : TS := (tRet (tMake a.C_Band (sp_Band_init a.C_Band) [] E0 (tCons (tVar 7) (tCons (tVar 9) (tCons (tVar 10) tNil)))))
@[reducible] def t_put_in_1 (K : PySem.W.Frag) (a : Adr) (E : XK) (d : Nat) : TS := tSeq (tAsg (tOp (rI0 fun i j => .int (i + j)) (tOp (rI0 fun i j => .int (i - j)) (tOp (rI CMul fun i j => .int (i * j)) (tVar 3) (tFld K (tVar 1) "high")) (tOp (rI CMul fun i j => .int (i * j)) (tVar 6) (tFld K (tVar 0) "low"))) (tOp (rI CMul fun i j => .int (i * j)) (tVar 5) (tVar 4))) (gName 10)) (t_put_in_0 K a E d)
@[reducible] def t_put_in_2 (K : PySem.W.Frag) (a : Adr) (E : XK) (d : Nat) : TS := tSeq (tAsg (tOp (rI0 fun i j => .int (i - j)) (tOp (rI CMul fun i j => .int (i * j)) (tVar 3) (tFld K (tVar 1) "low")) (tOp (rI CMul fun i j => .int (i * j)) (tVar 6) (tFld K (tVar 0) "high"))) (gName 9)) (t_put_in_1 K a E d)
@[reducible] def t_put_in_3 (K : PySem.W.Frag) (a : Adr) (E : XK) (d : Nat) : TS := tSeq (tAsg (tLc (iRng1 (tCons (tC (.int 3)) tNil)) (gName 8) tYes (tOp (rI0 fun i j => .int (i - j)) (tOp (rI CMul fun i j => .int (i * j)) (tVar 3) (tOp (rIxL K) (tFld K (tVar 1) "slopes") (tVar 8))) (tOp (rI CMul fun i j => .int (i * j)) (tVar 6) (tOp (rIxL K) (tFld K (tVar 0) "slopes") (tVar 8)))) [8]) (gName 7)) (t_put_in_2 K a E d)
@[reducible] def t_put_in_4 (K : PySem.W.Frag) (a : Adr) (E : XK) (d : Nat) : TS := tSeq (tAsg (tOp (rI CMul fun i j => .int (i * j)) (tVar 5) (tOp (rI CDiv fun i j => .int (i / j)) (tVar 3) (tOp (rIxL K) (tFld K (tVar 0) "slopes") (tVar 2)))) (gName 6)) (t_put_in_3 K a E d)
@[reducible] def t_put_in_5 (K : PySem.W.Frag) (a : Adr) (E : XK) (d : Nat) : TS := tSeq (tAsg (tOp (rIxL K) (tFld K (tVar 1) "slopes") (tVar 2)) (gName 5)) (t_put_in_4 K a E d)
theorem ok_put_in (T : Txt K mg a) : FnOk P w K mg base CX0 3 a.f_put_in a.d_put_in ["start", "band", "unknown", "scale", "most_shift"] (sp_put_in a.C_Band) := by
  have G_Band_init : FnOk P w K mg base CX0 1 a.f_Band_init a.d_Band_init ["self", "slopes", "low", "high"] (sp_Band_init a.C_Band) := ok_Band_init T
  refine T.f_put_in.ok sc_put_in (fun vs H Q E h => ?_) (fun cdv A outer s H vs Q E hr h => ?_)
  · obtain ⟨v1, v2, u, sc, per, st, b, rfl, _⟩ := h
    rfl
  · obtain ⟨v1, v2, u, sc, per, st, b, rfl, hu, ⟨p1, dx1, q1, rfl, hp1, hq1⟩, ⟨p2, dx2, q2, rfl, hp2, hq2⟩, hsc, hper, hpos, B1, B2, k⟩ := h
    refine ⟨_, (pss_cons (ps_set (i := 5) sc_put_in.nd rfl (Or.inl rfl) (pe_ix ix_list (pe_fld (pv 1) (by rfl)) (pv 2) (fun _ _ => rfl)))
        (pss_cons (ps_set (i := 6) sc_put_in.nd rfl (Or.inr rfl) (pe_op op_mul (pv 5) (pe_op op_fdiv (pv 3) (pe_ix ix_list (pe_fld (pv 0) (by rfl)) (pv 2) (fun _ _ => rfl)))))
        (pss_cons (ps_setLc (i := 7) rfl sc_put_in.nd rfl rfl (sw_true rfl rfl rfl (by rfl)) (pi_range1 rfl T.n_range (pa_cons pe_int pa_nil)) (blkOk_by (own := [("k", 8)]) (by rfl)) (fun _ _ _ _ _ => (pg_name (i := 8) sc_put_in.nd rfl (Or.inl rfl))) (fun _ _ _ _ _ => pts_nil) (fun _ _ _ _ _ => (pe_op op_sub (pe_op op_mul (pv 3) (pe_ix (ix_listK K) (pe_fldK K (pv 1)) (pv 8) (fun _ _ => rfl))) (pe_op op_mul (pv 6) (pe_ix (ix_listK K) (pe_fldK K (pv 0)) (pv 8) (fun _ _ => rfl))))))
        (pss_cons (ps_set (i := 9) sc_put_in.nd rfl (Or.inl rfl) (pe_op op_sub (pe_op op_mul (pv 3) (pe_fld (pv 1) (by rfl))) (pe_op op_mul (pv 6) (pe_fld (pv 0) (by rfl)))))
        (pss_cons (ps_set (i := 10) sc_put_in.nd rfl (Or.inl rfl) (pe_op op_add (pe_op op_sub (pe_op op_mul (pv 3) (pe_fld (pv 1) (by rfl))) (pe_op op_mul (pv 6) (pe_fld (pv 0) (by rfl)))) (pe_op op_mul (pv 5) (pv 4))))
        (pss_one (ps_ret (pe_make T.k_Band G_Band_init (hr.mono (by decide)) rfl T.m_Band T.b_Band_init .nil pass0 (pa_cons (pv 7) (pa_cons (pv 9) (pa_cons (pv 10) pa_nil))))))))))), ?_⟩
    show (t_put_in_5 K a E 0 : TS) _ _ _
    have g1 := V3.le_get B1.s u
    have g2 := V3.le_get B2.s u
    have tb := (putIn_B (u := u) (C := 60) hsc hper B1 B2 (by decide) hpos).2
    first | refine fldV rfl hp2 T.c_Band T.a_Band_slopes rfl ⟨_, rfl, ixL (SqL.of hq2) (v3_ix b.s hu) ?_⟩ | refine ⟨_, rfl, p2, _, dx2, _, _, rfl, hp2, T.c_Band, T.a_Band_slopes, rfl, _, rfl, q2, _, _, _, rfl, rfl, SqL.of hq2, v3_ix b.s hu, ?_⟩
    first | refine ⟨_, rfl, _, rfl, fldV rfl hp1 T.c_Band T.a_Band_slopes rfl ⟨_, rfl, ixL (SqL.of hq1) (v3_ix st.s hu) (i2c (⟨hpos, by (first | lia | omega)⟩) (i2c (.inl ⟨by (first | lia | omega), by (first | lia | omega)⟩) ?_))⟩⟩ | refine ⟨_, rfl, _, rfl, _, rfl, p1, _, dx1, _, _, rfl, hp1, T.c_Band, T.a_Band_slopes, rfl, _, rfl, q1, _, _, _, rfl, rfl, SqL.of hq1, v3_ix st.s hu, _, _, rfl, rfl, ⟨hpos, by (first | lia | omega)⟩, _, _, rfl, rfl, .inl ⟨by (first | lia | omega), by (first | lia | omega)⟩, ?_⟩
    generalize htm : b.s.get u * ((sc : Int) / st.s.get u) = tm at tb
    refine ⟨3, rfl, by decide, by decide, fun D hD => ?_⟩
    refine lc_range (lo := 0) (n := 3) (fun i H' => H' = upd H D (.lst ((v3l (V3.comb sc tm b.s st.s)).take i))) rfl ?_ ?_
    · rintro i H' hi rfl
      have s1 : Same H (upd H D (.lst ((v3l (V3.comb sc tm b.s st.s)).take i))) := same_new hD
      have gi1 := V3.le_get B1.s i
      have gi2 := V3.le_get B2.s i
      refine ⟨rfl, ?_⟩
      first | refine ⟨_, rfl, fldV rfl (s1 _ _ hp2) T.c_Band T.a_Band_slopes rfl ⟨_, rfl, ixL (SqL.of (s1 _ _ hq2)) (at_of (by (first | lia | omega)) (v3_at b.s hi)) (i2c (.inl ⟨by (first | lia | omega), by (first | lia | omega)⟩) ?_)⟩⟩ | refine ⟨_, rfl, _, rfl, p2, _, dx2, _, _, rfl, s1 _ _ hp2, T.c_Band, T.a_Band_slopes, rfl, _, rfl, q2, _, _, _, rfl, rfl, SqL.of (s1 _ _ hq2), at_of (by (first | lia | omega)) (v3_at b.s hi), _, _, rfl, rfl, .inl ⟨by (first | lia | omega), by (first | lia | omega)⟩, ?_⟩
      first | refine ⟨_, rfl, fldV rfl (s1 _ _ hp1) T.c_Band T.a_Band_slopes rfl ⟨_, rfl, ixL (SqL.of (s1 _ _ hq1)) (at_of (by (first | lia | omega)) (v3_at st.s hi)) (i2c (.inr ⟨by (first | lia | omega), by (first | lia | omega)⟩) ?_)⟩⟩ | refine ⟨_, rfl, _, rfl, p1, _, dx1, _, _, rfl, s1 _ _ hp1, T.c_Band, T.a_Band_slopes, rfl, _, rfl, q1, _, _, _, rfl, rfl, SqL.of (s1 _ _ hq1), at_of (by (first | lia | omega)) (v3_at st.s hi), _, _, rfl, rfl, .inr ⟨by (first | lia | omega), by (first | lia | omega)⟩, ?_⟩
      first | refine i2 ⟨_, upd_same, line_big (by rw [List.length_take, v3_len]; (first | lia | omega)), ?_⟩ | refine ⟨_, _, rfl, rfl, _, upd_same, line_big (by rw [List.length_take, v3_len]; (first | lia | omega)), ?_⟩
      rw [upd_upd, take_snoc (v3_at _ hi), V3.get_comb]
      try rw [htm]
    · rintro H' rfl
      have s1 : Same H (upd H D (.lst ((v3l (V3.comb sc tm b.s st.s)).take 3))) := same_new hD
      have b2l := B2.lo
      have b2h := B2.hi
      have b1l := B1.lo
      have b1h := B1.hi
      first | refine ⟨_, rfl, fldV rfl (s1 _ _ hp2) T.c_Band T.a_Band_low rfl (i2c (.inl ⟨by (first | lia | omega), by (first | lia | omega)⟩) ?_)⟩ | refine ⟨_, rfl, _, rfl, p2, _, dx2, _, _, rfl, s1 _ _ hp2, T.c_Band, T.a_Band_low, rfl, _, _, rfl, rfl, .inl ⟨by (first | lia | omega), by (first | lia | omega)⟩, ?_⟩
      first | refine ⟨_, rfl, fldV rfl (s1 _ _ hp1) T.c_Band T.a_Band_high rfl (i2c (.inr ⟨by (first | lia | omega), by (first | lia | omega)⟩) (i2 ?_))⟩ | refine ⟨_, rfl, _, rfl, p1, _, dx1, _, _, rfl, s1 _ _ hp1, T.c_Band, T.a_Band_high, rfl, _, _, rfl, rfl, .inr ⟨by (first | lia | omega), by (first | lia | omega)⟩, _, _, rfl, rfl, ?_⟩
      first | refine ⟨_, rfl, fldV rfl (s1 _ _ hp2) T.c_Band T.a_Band_high rfl (i2c (.inl ⟨by (first | lia | omega), by (first | lia | omega)⟩) ?_)⟩ | refine ⟨_, rfl, _, rfl, p2, _, dx2, _, _, rfl, s1 _ _ hp2, T.c_Band, T.a_Band_high, rfl, _, _, rfl, rfl, .inl ⟨by (first | lia | omega), by (first | lia | omega)⟩, ?_⟩
      first | refine ⟨_, rfl, fldV rfl (s1 _ _ hp1) T.c_Band T.a_Band_low rfl (i2c (.inr ⟨by (first | lia | omega), by (first | lia | omega)⟩) (i2 ?_))⟩ | refine ⟨_, rfl, _, rfl, p1, _, dx1, _, _, rfl, s1 _ _ hp1, T.c_Band, T.a_Band_low, rfl, _, _, rfl, rfl, .inr ⟨by (first | lia | omega), by (first | lia | omega)⟩, _, _, rfl, rfl, ?_⟩
      first | refine ⟨_, rfl, _, rfl, i2c (.inl ⟨by (first | lia | omega), by (first | lia | omega)⟩) (i2 ?_)⟩ | refine ⟨_, rfl, _, rfl, _, _, rfl, rfl, .inl ⟨by (first | lia | omega), by (first | lia | omega)⟩, _, _, rfl, rfl, ?_⟩
      refine ⟨_, rfl, _, rfl, _, rfl, ?_⟩
      intro x dx' nx nd ne
      refine ⟨x, dx', D, _, _, rfl, upd_same, rfl, ?_⟩
      subst htm
      obtain ⟨s2, e2⟩ := made (C := a.C_Band) (fs := bandF D ((sc : Int) * b.lo - b.s.get u * ((sc : Int) / st.s.get u) * st.hi) ((sc : Int) * b.hi - b.s.get u * ((sc : Int) / st.s.get u) * st.lo + b.s.get u * (per : Int))) nx nd ne
      exact k _ _ (s1.trans s2) ⟨x, dx', D, rfl, e2, s2 _ _ upd_same⟩
def gcdTo (s : V3) : Nat → Nat
  | 0 => 0
  | i + 1 => Nat.gcd (gcdTo s i) (s.get i).natAbs
theorem gcdTo3 (s : V3) : gcdTo s 3 = s.gcd := by
  show Nat.gcd (Nat.gcd (Nat.gcd 0 s.x.natAbs) s.y.natAbs) s.z.natAbs = s.gcd
  rw [Nat.gcd_zero_left]
  rfl
theorem gcd_le {s : V3} {S : Int} (h : s.le S) (hz : s.isZ = false) : (s.gcd : Int) ≤ S := by
  obtain ⟨d1, d2, d3⟩ := s.gcd_dvd
  obtain ⟨h1, h2, h3⟩ := h
  have key : ∀ x : Int, x ≠ 0 → (s.gcd : Int) ∣ x → (s.gcd : Int) ≤ (x.natAbs : Int) := fun x hx hd => by
    have := Nat.le_of_dvd (by (first | lia | omega)) (Int.ofNat_dvd_left.mp hd)
    (first | lia | omega)
  by_cases x0 : s.x = 0
  · by_cases y0 : s.y = 0
    · by_cases z0 : s.z = 0
      · simp [V3.isZ, x0, y0, z0] at hz
      · have := key _ z0 d3
        (first | lia | omega)
    · have := key _ y0 d2
      (first | lia | omega)
  · have := key _ x0 d1
    (first | lia | omega)
def sp_in_lowest_terms (C : Addr) : Sp := fun vs H Q _ => ∃ (v : V) (b : Band), vs = [v] ∧ BandAt C H v b ∧ b.s.le 576 ∧ b.s.isZ = false ∧ ∀ v' H', Same H H' → BandAt C H' v' (lowest b) → Q v' H'
@[reducible] def t_in_lowest_terms_0 (K : PySem.W.Frag) (a : Adr) (E : XK) (d : Nat) : TS := (tRet (tMake a.C_Band (sp_Band_init a.C_Band) [] E0 (tCons (tVar 3) (tCons (tOp (rI CDiv fun i j => .int (i / j)) (tFld K (tVar 0) "low") (tVar 1)) (tCons (tUn (rU fun i => .int (-i)) (tOp (rI CDiv fun i j => .int (i / j)) (tUn (rU fun i => .int (-i)) (tFld K (tVar 0) "high")) (tVar 1))) tNil)))))
@[reducible] def t_in_lowest_terms_1 (K : PySem.W.Frag) (a : Adr) (E : XK) (d : Nat) : TS := tSeq (tAsg (tLc (iList K (tFld K (tVar 0) "slopes")) (gName 2) tYes (tOp (rI CDiv fun i j => .int (i / j)) (tVar 2) (tVar 1)) [2]) (gName 3)) (t_in_lowest_terms_0 K a E d)
@[reducible] def t_in_lowest_terms_2 (K : PySem.W.Frag) (a : Adr) (E : XK) (d : Nat) : TS := (tAsg (tCall sp_common_divisor [] E0 (tCons (tVar 1) (tCons (tCB rAbs (tCons (tVar 2) tNil)) tNil))) (gName 1))
@[reducible] def t_in_lowest_terms_3 (K : PySem.W.Frag) (a : Adr) (E : XK) (d : Nat) : TS := tSeq (tFor (iList K (tFld K (tVar 0) "slopes")) (gName 2) (t_in_lowest_terms_2 K a E d)) (t_in_lowest_terms_1 K a E d)
@[reducible] def t_in_lowest_terms_4 (K : PySem.W.Frag) (a : Adr) (E : XK) (d : Nat) : TS := tSeq (tAsg (tC (.int 0)) (gName 1)) (t_in_lowest_terms_3 K a E d)
theorem ok_in_lowest_terms (T : Txt K mg a) : FnOk P w K mg base CX0 3 a.f_in_lowest_terms a.d_in_lowest_terms ["band"] (sp_in_lowest_terms a.C_Band) := by
  have G_Band_init : FnOk P w K mg base CX0 1 a.f_Band_init a.d_Band_init ["self", "slopes", "low", "high"] (sp_Band_init a.C_Band) := ok_Band_init T
  have G_common_divisor : FnOk P w K mg base CX0 1 a.f_common_divisor a.d_common_divisor ["a", "b"] sp_common_divisor := ok_common_divisor T
  refine T.f_in_lowest_terms.ok sc_in_lowest_terms (fun vs H Q E h => ?_) (fun cdv A outer s H vs Q E hr h => ?_)
  · obtain ⟨v, b, rfl, _⟩ := h
    rfl
  · obtain ⟨v, b, rfl, ⟨p, dx, q, rfl, hp, hq⟩, hle, hz, k⟩ := h
    refine ⟨_, (pss_cons (ps_set (i := 1) sc_in_lowest_terms.nd rfl (Or.inr rfl) pe_int)
        (pss_cons (ps_for PassesOwn.never rfl (pi_list (pe_fld (pv 0) (by rfl))) (pg_name (i := 2) sc_in_lowest_terms.nd rfl (Or.inl rfl)) (pss_one (ps_set (i := 1) sc_in_lowest_terms.nd rfl (Or.inr rfl) (pe_call G_common_divisor (hr.mono (by decide)) rfl T.m_common_divisor T.f_common_divisor.kp T.b_common_divisor .nil pass0 (pa_cons (pv 1) (pa_cons (pe_callB call_abs rfl T.n_abs WS.boot_abs (pa_cons (pv 2) pa_nil)) pa_nil))))))
        (pss_cons (ps_setLc (i := 3) rfl sc_in_lowest_terms.nd rfl rfl (sw_true rfl rfl rfl (by rfl)) (pi_list (pe_fld (pv 0) (by rfl))) (blkOk_by (own := [("slope", 2)]) (by rfl)) (fun _ _ _ _ _ => (pg_name (i := 2) sc_in_lowest_terms.nd rfl (Or.inl rfl))) (fun _ _ _ _ _ => pts_nil) (fun _ _ _ _ _ => (pe_op op_fdiv (pv 2) (pv 1))))
        (pss_one (ps_ret (pe_make T.k_Band G_Band_init (hr.mono (by decide)) rfl T.m_Band T.b_Band_init .nil pass0 (pa_cons (pv 3) (pa_cons (pe_op op_fdiv (pe_fld (pv 0) (by rfl)) (pv 1)) (pa_cons (pe_un un_neg (pe_op op_fdiv (pe_un un_neg (pe_fld (pv 0) (by rfl))) (pv 1))) pa_nil))))))))), ?_⟩
    show (t_in_lowest_terms_4 K a E 0 : TS) _ _ _
    have gp := V3.gcd_pos hz
    have gl := gcd_le hle hz
    first | refine fldV rfl hp T.c_Band T.a_Band_slopes rfl ⟨q, rfl, ⟨_, SqL.of hq⟩, for_list (K := K) (a := q) (xs := v3l b.s) (fun i σ H' => H = H' ∧ ∃ z : Option V, σ = [some (.ref p), some (.int (gcdTo b.s i : Nat)), z, none]) ⟨rfl, none, rfl⟩ (fun i σ H' _ ⟨e, _⟩ => by subst e; exact SqL.of hq) ?_ ?_⟩ | refine ⟨_, rfl, p, _, dx, _, _, rfl, hp, T.c_Band, T.a_Band_slopes, rfl, q, rfl, ⟨_, SqL.of hq⟩, for_list (K := K) (a := q) (xs := v3l b.s) (fun i σ H' => H = H' ∧ ∃ z : Option V, σ = [some (.ref p), some (.int (gcdTo b.s i : Nat)), z, none]) ⟨rfl, none, rfl⟩ (fun i σ H' _ ⟨e, _⟩ => by subst e; exact SqL.of hq) ?_ ?_⟩
    · rintro i x σ H' hx ⟨rfl, z, rfl⟩
      obtain ⟨hi, rfl⟩ := v3_of hx
      have ab : (if b.s.get i < 0 then -(b.s.get i) else b.s.get i) = (((b.s.get i).natAbs : Nat) : Int) := by split <;> (first | lia | omega)
      refine ⟨_, rfl, _, rfl, _, rfl, ?_⟩
      rw [ab]
      first | exact i2 ⟨_, rfl⟩ | exact ⟨_, _, rfl, rfl, _, rfl⟩
    · rintro σ H' ⟨rfl, z, rfl⟩
      rw [v3_len, gcdTo3]
      first | refine fldV rfl hp T.c_Band T.a_Band_slopes rfl ⟨q, rfl, ⟨_, SqL.of hq⟩, fun D hD => ?_⟩ | refine ⟨_, rfl, p, _, dx, _, _, rfl, hp, T.c_Band, T.a_Band_slopes, rfl, q, rfl, ⟨_, SqL.of hq⟩, fun D hD => ?_⟩
      refine lc_list (K := K) (a := q) (xs := v3l b.s) (fun i H' => H' = upd H D (.lst ((v3l (b.s.div b.s.gcd)).take i))) rfl (fun i H' _ e => by subst e; exact SqL.of (by rw [upd_ne (ne_of_none hq hD)]; exact hq)) ?_ ?_
      · rintro i x H' hx rfl
        obtain ⟨hi, rfl⟩ := v3_of hx
        refine ⟨rfl, ?_⟩
        first | refine ⟨_, rfl, _, rfl, i2c (⟨by (first | lia | omega), by (first | lia | omega)⟩) ⟨_, upd_same, line_big (by rw [List.length_take, v3_len]; (first | lia | omega)), ?_⟩⟩ | refine ⟨_, rfl, _, rfl, _, _, rfl, rfl, ⟨by (first | lia | omega), by (first | lia | omega)⟩, _, upd_same, line_big (by rw [List.length_take, v3_len]; (first | lia | omega)), ?_⟩
        have ge : (b.s.div b.s.gcd).get i = b.s.get i / (b.s.gcd : Int) := by
          unfold V3.get V3.div
          split
          · rfl
          · split <;> rfl
        rw [upd_upd, take_snoc (v3_at _ hi), ge]
      · rintro H' rfl
        have s1 : Same H (upd H D (.lst ((v3l (b.s.div b.s.gcd)).take 3))) := same_new hD
        refine ⟨_, rfl, ?_⟩
        first | refine fldV rfl (s1 _ _ hp) T.c_Band T.a_Band_low rfl ⟨_, rfl, i2c (⟨by (first | lia | omega), by (first | lia | omega)⟩) ?_⟩ | refine ⟨_, rfl, p, _, dx, _, _, rfl, s1 _ _ hp, T.c_Band, T.a_Band_low, rfl, _, rfl, _, _, rfl, rfl, ⟨by (first | lia | omega), by (first | lia | omega)⟩, ?_⟩
        first | refine fldV rfl (s1 _ _ hp) T.c_Band T.a_Band_high rfl ⟨_, rfl, _, rfl, i2c (⟨by (first | lia | omega), by (first | lia | omega)⟩) ⟨_, rfl, ?_⟩⟩ | refine ⟨_, rfl, p, _, dx, _, _, rfl, s1 _ _ hp, T.c_Band, T.a_Band_high, rfl, _, rfl, _, rfl, _, _, rfl, rfl, ⟨by (first | lia | omega), by (first | lia | omega)⟩, _, rfl, ?_⟩
        intro x dx' nx nd ne
        refine ⟨x, dx', D, _, _, rfl, upd_same, rfl, ?_⟩
        obtain ⟨s2, e2⟩ := made (C := a.C_Band) (fs := bandF D (b.lo / (b.s.gcd : Int)) (-((-b.hi) / (b.s.gcd : Int)))) nx nd ne
        exact k _ _ (s1.trans s2) ⟨x, dx', D, rfl, e2, s2 _ _ upd_same⟩
end
end WS
end
section
set_option Elab.async false
set_option linter.all false
set_option maxRecDepth 100000
set_option maxHeartbeats 1000000
namespace WS
open PySem PySem.Spec PyProof.Rows L2
open Sy15 (T Val put)
theorem Paired.app {α β : Type} {R : α → β → Prop} : ∀ {l m : List α} {k n : List β}, Paired R l k → Paired R m n → Paired R (l ++ m) (k ++ n)
  | _, _, _, _, .nil, h => h
  | _, _, _, _, .cons r t, h => .cons r (Paired.app t h)
def SameX (d : Addr) (H H' : Hp) : Prop := ∀ b o, H b = some o → b ≠ d → H' b = some o
theorem Same.x {H H' : Hp} (h : Same H H') (d : Addr) : SameX d H H' := fun b o e _ => h b o e
theorem SameX.trans {d : Addr} {H H1 H2 : Hp} (h : SameX d H H1) (g : SameX d H1 H2) : SameX d H H2 := fun b o e n => g b o (h b o e n) n
theorem SameX.upd {d : Addr} {H H' : Hp} (h : SameX d H H') (o : HO) : SameX d H (upd H' d o) := fun b u e n => by rw [upd_ne n]; exact h b u e n
theorem SameX.same {d : Addr} {H H' : Hp} (h : SameX d H H') (n : H d = none) : Same H H' := fun b o e => h b o e (ne_of_none e n)
theorem BandsAt.noInts {C : Addr} {H : Hp} {ws : List V} {bs : List Band} (h : BandsAt C H ws bs) (s : V3) : ws ≠ v3l s := by
  intro e
  subst e
  cases h with
  | cons r t =>
    obtain ⟨p, _, _, e, _⟩ := r
    cases e
theorem BandAt.sameX {C d : Addr} {H H' : Hp} {ws : List V} (hd : H d = some (.lst ws)) (hw : ∀ s, ws ≠ v3l s) (e : SameX d H H') {v : V} {b : Band} (h : BandAt C H v b) : BandAt C H' v b := by
  obtain ⟨p, dx, q, h1, h2, h3⟩ := h
  refine ⟨p, dx, q, h1, e _ _ h2 (ne_of h2 hd (by intro z; cases z)), e _ _ h3 (ne_of h3 hd (by intro z; exact hw b.s (HO.lst.inj z).symm))⟩
theorem BandsAt.sameX {C d : Addr} {H H' : Hp} {ws : List V} (hd : H d = some (.lst ws)) (hw : ∀ s, ws ≠ v3l s) (e : SameX d H H') {vs : List V} {bs : List Band} (h : BandsAt C H vs bs) : BandsAt C H' vs bs := Paired.mapP h fun _ _ x => x.sameX hd hw e
theorem filter_snoc {α : Type} (p : α → Bool) (l : List α) (x : α) : (l ++ [x]).filter p = l.filter p ++ (if p x = true then [x] else []) := by
  rw [List.filter_append]
  by_cases h : p x = true <;> simp [h]
theorem unit_get (u : Nat) {i : Nat} (hi : i < 3) : (V3.unit u).get i = if i = u then 1 else 0 := by
  rcases lt3 hi with rfl | rfl | rfl <;> rfl
def OlAt (CO CB : Addr) (H : Hp) (v : V) (o : Ol) : Prop := ∃ p dx q vs, v = .ref p ∧ H p = some (.ins CO dx (olF q (o.2 : Nat))) ∧ H q = some (.lst vs) ∧ BandsAt CB H vs o.1
theorem any_isZ (s : V3) : ([s.x, s.y, s.z].any fun n => n != 0) = !s.isZ := by
  unfold V3.isZ
  by_cases h1 : s.x = 0 <;> by_cases h2 : s.y = 0 <;> by_cases h3 : s.z = 0 <;> simp [h1, h2, h3]
section
variable {P : Program} {w : World} {K : PySem.W.Frag} {mg : Str → Option Value} {base : Heap} {a : Adr}
def sp_outline_without (CO CB : Addr) : Sp := fun vs H Q _ => ∃ (u : Nat) (v : V) (o : Ol), vs = [.int (u : Nat), v] ∧ u < 3 ∧ OlAt CO CB H v o ∧ 0 < o.2 ∧ OlB 3 60 12 64 o ∧ ∀ v' H', Same H H' → OlAt CO CB H' v' (without u o) → Q v' H'
@[reducible] def t_outline_without_0 (K : PySem.W.Frag) (a : Adr) (E : XK) (d : Nat) : TS := (tRet (tMake a.C_Outline (sp_Outline_init a.C_Outline) [] E0 (tCons (tLc (iList K (tVar 7)) (gName 3) (L2.tB (tCB (rAnyI K) (tCons (tFld K (tVar 3) "slopes") tNil))) (tCall (sp_in_lowest_terms a.C_Band) [] E0 (tCons (tVar 3) tNil)) [3]) (tCons (tVar 6) tNil))))
@[reducible] def t_outline_without_1 (K : PySem.W.Frag) (a : Adr) (E : XK) (d : Nat) : TS := (tDrop (tBM K "list" rExtend (tVar 7) (tCons (tLc (iList K (tVar 2)) (gName 3) tYes (tCall (sp_put_in a.C_Band) [] E0 (tCons (tVar 8) (tCons (tVar 3) (tCons (tVar 0) (tCons (tVar 5) (tCons (tVar 6) tNil)))))) [3]) tNil)))
@[reducible] def t_outline_without_2 (K : PySem.W.Frag) (a : Adr) (E : XK) (d : Nat) : TS := tSeq (tFor (iList K (tVar 2)) (gName 8) (t_outline_without_1 K a E d)) (t_outline_without_0 K a E d)
@[reducible] def t_outline_without_3 (K : PySem.W.Frag) (a : Adr) (E : XK) (d : Nat) : TS := tSeq (tAsg (tLc (iList K (tFld K (tVar 1) "bands")) (gName 3) (tTest (tOp rEq (tOp (rIxL K) (tFld K (tVar 3) "slopes") (tVar 0)) (tC (.int 0)))) (tVar 3) [3]) (gName 7)) (t_outline_without_2 K a E d)
@[reducible] def t_outline_without_4 (K : PySem.W.Frag) (a : Adr) (E : XK) (d : Nat) : TS := tSeq (tAsg (tOp (rI CMul fun i j => .int (i * j)) (tVar 5) (tFld K (tVar 1) "period")) (gName 6)) (t_outline_without_3 K a E d)
@[reducible] def t_outline_without_5 (K : PySem.W.Frag) (a : Adr) (E : XK) (d : Nat) : TS := (tAsg (tCall sp_common_multiple [] E0 (tCons (tVar 5) (tCons (tOp (rIxL K) (tFld K (tVar 3) "slopes") (tVar 0)) tNil))) (gName 5))
@[reducible] def t_outline_without_6 (K : PySem.W.Frag) (a : Adr) (E : XK) (d : Nat) : TS := tSeq (tFor (iList K (tVar 2)) (gName 3) (t_outline_without_5 K a E d)) (t_outline_without_4 K a E d)
@[reducible] def t_outline_without_7 (K : PySem.W.Frag) (a : Adr) (E : XK) (d : Nat) : TS := tSeq (tAsg (tC (.int 1)) (gName 5)) (t_outline_without_6 K a E d)
@[reducible] def t_outline_without_8 (K : PySem.W.Frag) (a : Adr) (E : XK) (d : Nat) : TS := tSeq (tDrop (tBM K "list" rAppend (tVar 2) (tCons (tMake a.C_Band (sp_Band_init a.C_Band) [] E0 (tCons (tLc (iRng1 (tCons (tC (.int 3)) tNil)) (gName 4) tYes (tIf (tTest (tOp rEq (tVar 4) (tVar 0))) (tC (.int 1)) (tC (.int 0))) [4]) (tCons (tC (.int 0)) (tCons (tC (.int 0)) tNil)))) tNil))) (t_outline_without_7 K a E d)
@[reducible] def t_outline_without_9 (K : PySem.W.Frag) (a : Adr) (E : XK) (d : Nat) : TS := tSeq (tAsg (tLc (iList K (tFld K (tVar 1) "bands")) (gName 3) (tTest (tOp rNe (tOp (rIxL K) (tFld K (tVar 3) "slopes") (tVar 0)) (tC (.int 0)))) (tCall (sp_rising a.C_Band) [] E0 (tCons (tVar 3) (tCons (tVar 0) tNil))) [3]) (gName 2)) (t_outline_without_8 K a E d)
theorem ok_outline_without (T : Txt K mg a) : FnOk P w K mg base CX0 5 a.f_outline_without a.d_outline_without ["unknown", "inner"] (sp_outline_without a.C_Outline a.C_Band) := by
  have G_Band_init : FnOk P w K mg base CX0 1 a.f_Band_init a.d_Band_init ["self", "slopes", "low", "high"] (sp_Band_init a.C_Band) := ok_Band_init T
  have G_Outline_init : FnOk P w K mg base CX0 1 a.f_Outline_init a.d_Outline_init ["self", "bands", "period"] (sp_Outline_init a.C_Outline) := ok_Outline_init T
  have G_rising : FnOk P w K mg base CX0 3 a.f_rising a.d_rising ["band", "unknown"] (sp_rising a.C_Band) := ok_rising T
  have G_put_in : FnOk P w K mg base CX0 3 a.f_put_in a.d_put_in ["start", "band", "unknown", "scale", "most_shift"] (sp_put_in a.C_Band) := ok_put_in T
  have G_in_lowest_terms : FnOk P w K mg base CX0 3 a.f_in_lowest_terms a.d_in_lowest_terms ["band"] (sp_in_lowest_terms a.C_Band) := ok_in_lowest_terms T
  have G_common_multiple : FnOk P w K mg base CX0 2 a.f_common_multiple a.d_common_multiple ["a", "b"] sp_common_multiple := ok_common_multiple T
  refine T.f_outline_without.ok sc_outline_without (fun vs H Q E h => ?_) (fun cdv A outer s H vs Q E hr h => ?_)
  · obtain ⟨u, v, o, rfl, _⟩ := h
    rfl
  · obtain ⟨u, v, o, rfl, hu, ⟨p, dx, q, vs, rfl, hp, hq, hB⟩, hP, hb, k⟩ := h
    refine ⟨_, (pss_cons (ps_setLc (i := 2) rfl sc_outline_without.nd rfl rfl (sw_true rfl rfl rfl (by rfl)) (pi_list (pe_fld (pv 1) (by rfl))) (blkOk_by (own := [("band", 3)]) (by rfl)) (fun _ _ _ _ _ => (pg_name (i := 3) sc_outline_without.nd rfl (Or.inl rfl))) (fun _ _ _ _ _ => (pts_one (pt_cmpR op_ne (pe_ix (ix_listK K) (pe_fldK K (pv 3)) (pv 0) (fun _ _ => rfl)) pe_int (nomark _)))) (fun _ _ _ _ _ => (pe_call G_rising (hr.mono (by decide)) rfl T.m_rising T.f_rising.kp T.b_rising .nil pass0 (pa_cons (pv 3) (pa_cons (pv 0) pa_nil)))))
        (pss_cons (ps_expr (pe_bm PySem.F.plainAttrs_list PySem.F.slot_list_append PySem.F.type_list_append mt_append (pv 2) (pa_cons (pe_make T.k_Band G_Band_init (hr.mono (by decide)) rfl T.m_Band T.b_Band_init .nil pass0 (pa_cons (pe_lc rfl sc_outline_without.nd (pi_range1 rfl T.n_range (pa_cons pe_int pa_nil)) (blkOk_by (own := [("k", 4)]) (by rfl)) (fun _ _ _ _ _ => (pg_name (i := 4) sc_outline_without.nd rfl (Or.inl rfl))) (fun _ _ _ _ _ => pts_nil) (fun _ _ _ _ _ => (pe_ifExp (pt_cmpR op_eq (pv 4) (pv 0) (nomark _)) pe_int pe_int))) (pa_cons pe_int (pa_cons pe_int pa_nil)))) pa_nil)))
        (pss_cons (ps_set (i := 5) sc_outline_without.nd rfl (Or.inr rfl) pe_int)
        (pss_cons (ps_for PassesOwn.never rfl (pi_list (pv 2)) (pg_name (i := 3) sc_outline_without.nd rfl (Or.inl rfl)) (pss_one (ps_set (i := 5) sc_outline_without.nd rfl (Or.inr rfl) (pe_call G_common_multiple (hr.mono (by decide)) rfl T.m_common_multiple T.f_common_multiple.kp T.b_common_multiple .nil pass0 (pa_cons (pv 5) (pa_cons (pe_ix ix_list (pe_fld (pv 3) (by rfl)) (pv 0) (fun _ _ => rfl)) pa_nil))))))
        (pss_cons (ps_set (i := 6) sc_outline_without.nd rfl (Or.inr rfl) (pe_op op_mul (pv 5) (pe_fld (pv 1) (by rfl))))
        (pss_cons (ps_setLc (i := 7) rfl sc_outline_without.nd rfl rfl (sw_true rfl rfl rfl (by rfl)) (pi_list (pe_fld (pv 1) (by rfl))) (blkOk_by (own := [("band", 3)]) (by rfl)) (fun _ _ _ _ _ => (pg_name (i := 3) sc_outline_without.nd rfl (Or.inl rfl))) (fun _ _ _ _ _ => (pts_one (pt_cmpR op_eq (pe_ix (ix_listK K) (pe_fldK K (pv 3)) (pv 0) (fun _ _ => rfl)) pe_int (nomark _)))) (fun _ _ _ _ _ => (pv 3)))
        (pss_cons (ps_for PassesOwn.never rfl (pi_list (pv 2)) (pg_name (i := 8) sc_outline_without.nd rfl (Or.inr rfl)) (pss_one (ps_expr (pe_bm PySem.F.plainAttrs_list PySem.F.slot_list_extend PySem.F.type_list_extend mt_extend (pv 7) (pa_cons (pe_lc rfl sc_outline_without.nd (pi_list (pv 2)) (blkOk_by (own := [("band", 3)]) (by rfl)) (fun _ _ _ _ _ => (pg_name (i := 3) sc_outline_without.nd rfl (Or.inl rfl))) (fun _ _ _ _ _ => pts_nil) (fun _ _ _ _ _ => (pe_call G_put_in (hr.mono (by decide)) rfl T.m_put_in T.f_put_in.kp T.b_put_in .nil pass0 (pa_cons (pv 8) (pa_cons (pv 3) (pa_cons (pv 0) (pa_cons (pv 5) (pa_cons (pv 6) pa_nil)))))))) pa_nil)))))
        (pss_one (ps_ret (pe_make T.k_Outline G_Outline_init (hr.mono (by decide)) rfl T.m_Outline T.b_Outline_init .nil pass0 (pa_cons (pe_lc rfl sc_outline_without.nd (pi_list (pv 7)) (blkOk_by (own := [("band", 3)]) (by rfl)) (fun _ _ _ _ _ => (pg_name (i := 3) sc_outline_without.nd rfl (Or.inl rfl))) (fun _ _ _ _ _ => (pts_one (pt_val (pe_callB (cr_anyIK K) rfl T.n_any WS.boot_any (pa_cons (pe_fldK K (pv 3)) pa_nil))))) (fun _ _ _ _ _ => (pe_call G_in_lowest_terms (hr.mono (by decide)) rfl T.m_in_lowest_terms T.f_in_lowest_terms.kp T.b_in_lowest_terms .nil pass0 (pa_cons (pv 3) pa_nil)))) (pa_cons (pv 6) pa_nil)))))))))))), ?_⟩
    show (t_outline_without_9 K a E 0 : TS) _ _ _
    have vl : vs.length = o.1.length := Paired.length hB
    have ol64 := hb.len
    first | refine fldV rfl hp T.c_Outline T.a_Outline_bands rfl ⟨q, rfl, ⟨_, SqL.of hq⟩, fun D1 hD1 => ?_⟩ | refine ⟨_, rfl, p, _, dx, _, _, rfl, hp, T.c_Outline, T.a_Outline_bands, rfl, q, rfl, ⟨_, SqL.of hq⟩, fun D1 hD1 => ?_⟩
    refine lc_list (K := K) (a := q) (xs := vs) (fun i H' => Same H H' ∧ ∃ ws, H' D1 = some (.lst ws) ∧ BandsAt a.C_Band H' ws (((o.1.take i).filter fun b : Band => decide (b.s.get u ≠ 0)).map (rising u))) ⟨same_new hD1, [], upd_same, .nil⟩ (fun i H' _ ⟨e, _⟩ => SqL.of (e _ _ hq)) ?_ ?_
    · rintro i x H' hx ⟨sm, ws, hw, hbs⟩
      obtain ⟨b, hbi, hbx⟩ := paired_get hB hx
      have hbx' := hbx.same sm
      obtain ⟨pb, dxb, qb, rfl, hpb, hqb⟩ := hbx
      refine ⟨rfl, ?_⟩
      first | refine fldV rfl (sm _ _ hpb) T.c_Band T.a_Band_slopes rfl ⟨_, rfl, ixL (SqL.of (sm _ _ hqb)) (v3_ix b.s hu) ⟨rfl, _, rfl, ?_⟩⟩ | refine ⟨_, rfl, pb, _, dxb, _, _, rfl, sm _ _ hpb, T.c_Band, T.a_Band_slopes, rfl, _, rfl, qb, _, _, _, rfl, rfl, SqL.of (sm _ _ hqb), v3_ix b.s hu, rfl, _, rfl, ?_⟩
      by_cases hz : b.s.get u = 0
      · refine ifNeF hz ⟨sm, ws, hw, ?_⟩
        rw [take_snoc hbi, filter_snoc, if_neg (by simpa using hz), List.append_nil]
        exact hbs
      · refine ifNeT hz ?_
        refine ⟨_, rfl, _, rfl, _, u, b, rfl, hu, hbx', fun v' H2 s2 hb2 => ?_⟩
        have hw2 := s2 _ _ hw
        have hbs2 := hbs.same s2
        have wl : ws.length ≤ 64 := by
          have := Paired.length hbs
          rw [List.length_map] at this
          have := List.length_filter_le (fun b : Band => decide (b.s.get u ≠ 0)) (o.1.take i)
          rw [List.length_take] at this
          (first | lia | omega)
        refine ⟨ws, hw2, line_big (by (first | lia | omega)), fun c oc e => ?_, ws ++ [v'], upd_same, ?_⟩
        · rw [upd_ne (ne_of_none e hD1)]
          exact s2 _ _ (sm _ _ e)
        · have sx : SameX D1 H2 (upd H2 D1 (.lst (ws ++ [v']))) := SameX.upd (fun _ _ e _ => e) _
          rw [take_snoc hbi, filter_snoc, if_pos (by simpa using hz), List.map_append]
          exact Paired.app (hbs2.sameX hw2 hbs2.noInts sx) (.cons (hb2.sameX hw2 hbs2.noInts sx) .nil)
    · rintro H1 ⟨sm1, ws1, hw1, hbs1⟩
      rw [vl, List.take_length] at hbs1
      refine ⟨_, rfl, .inl ⟨rfl, _, SqL.of hw1⟩, 3, rfl, by decide, by decide, fun D2 hD2 => ?_⟩
      refine lc_range (lo := 0) (n := 3) (fun i H' => H' = upd H1 D2 (.lst ((v3l (V3.unit u)).take i))) rfl ?_ ?_
      · rintro i H' hi rfl
        refine ⟨rfl, ?_⟩
        refine ⟨_, rfl, _, rfl, rfl, _, rfl, ?_⟩
        have fin : ∀ z : Int, (V3.unit u).get i = z → ∃ acc, upd H1 D2 (.lst ((v3l (V3.unit u)).take i)) D2 = some (.lst acc) ∧ acc.length < sizeLine ∧ upd (upd H1 D2 (.lst ((v3l (V3.unit u)).take i))) D2 (.lst (acc ++ [.int z])) = upd H1 D2 (.lst ((v3l (V3.unit u)).take (i + 1))) := fun z hz =>
          ⟨_, upd_same, line_big (by rw [List.length_take, v3_len]; (first | lia | omega)), by rw [upd_upd, take_snoc (v3_at _ hi), hz]⟩
        by_cases e : i = u
        · exact ifEqT (by (first | lia | omega)) (fin 1 (by rw [unit_get u hi, if_pos e]))
        · exact ifEqF (by (first | lia | omega)) (fin 0 (by rw [unit_get u hi, if_neg e]))
      · rintro H2 rfl
        have sm2 : Same H1 (upd H1 D2 (.lst ((v3l (V3.unit u)).take 3))) := same_new hD2
        intro x dx' nx nd ne
        refine ⟨x, dx', D2, _, _, rfl, upd_same, rfl, ?_⟩
        obtain ⟨sm3, e3⟩ := made (C := a.C_Band) (fs := bandF D2 0 0) nx nd ne
        generalize hH3 : upd (upd (upd (upd H1 D2 (.lst ((v3l (V3.unit u)).take 3))) dx' (.own x)) x (.ins a.C_Band dx' [])) x (.ins a.C_Band dx' (bandF D2 0 0)) = H3 at sm3 e3
        have sm13 : Same H1 H3 := sm2.trans sm3
        have hw3 := sm13 _ _ hw1
        have hbs3 := hbs1.same sm13
        have l1 : ws1.length ≤ 64 := by
          have := Paired.length hbs1
          rw [List.length_map] at this
          have := List.length_filter_le (fun b : Band => decide (b.s.get u ≠ 0)) o.1
          (first | lia | omega)
        first | refine apd hw3 (line_big (by (first | lia | omega))) ?_ | refine ⟨D1, ws1, _, rfl, rfl, hw3, line_big (by (first | lia | omega)), ?_⟩
        have sx : SameX D1 H3 (upd H3 D1 (.lst (ws1 ++ [.ref x]))) := SameX.upd (fun _ _ e _ => e) _
        have ub : BandAt a.C_Band H3 (.ref x) ⟨V3.unit u, 0, 0⟩ := ⟨x, dx', D2, rfl, e3, sm3 _ _ upd_same⟩
        have hT : BandsAt a.C_Band (upd H3 D1 (.lst (ws1 ++ [.ref x]))) (ws1 ++ [.ref x]) (turning u o.1) := Paired.app (hbs3.sameX hw3 hbs3.noInts sx) (.cons (ub.sameX hw3 hbs3.noInts sx) .nil)
        have smT : Same H (upd H3 D1 (.lst (ws1 ++ [.ref x]))) := fun c oc e => by
          rw [upd_ne (ne_of_none e hD1)]
          exact sm13 _ _ (sm1 _ _ e)
        have hDT : (upd H3 D1 (.lst (ws1 ++ [.ref x]))) D1 = some (.lst (ws1 ++ [.ref x])) := upd_same
        generalize upd H3 D1 (.lst (ws1 ++ [.ref x])) = H4 at hT smT hDT
        generalize hws : ws1 ++ [V.ref x] = ws at hT hDT
        have tl := turning_len u o.1
        have wl : ws.length = (turning u o.1).length := Paired.length hT
        have tB := turning_B (by decide) (by decide) hb.band u
        have tp := turning_pos hu (bs := o.1)
        generalize hts : turning u o.1 = ts at *
        have sc6 : ∀ i, scaleOf u (ts.take i) ∣ 6 := fun i => scale_le (S := 3) _ 1 ⟨6, rfl⟩ fun b hb => by
          have hm := List.mem_of_mem_take hb
          have p1 := tp b hm
          have q1 := V3.le_get (tB b hm).s u
          have : (b.s.get u).toNat = 1 ∨ (b.s.get u).toNat = 2 ∨ (b.s.get u).toNat = 3 := by (first | lia | omega)
          rcases this with e | e | e <;> rw [e] <;> decide
        have scp : ∀ i, 0 < scaleOf u (ts.take i) := fun i => scale_pos _ 1 (by decide) fun b hb => tp b (List.mem_of_mem_take hb)
        refine ⟨_, rfl, D1, rfl, ⟨_, SqL.of hDT⟩, for_list (K := K) (a := D1) (xs := ws) (fun i σ H' => H4 = H' ∧ ∃ z : Option V, σ = [some (.int (u : Nat)), some (.ref p), some (.ref D1), z, none, some (.int (scaleOf u (ts.take i) : Nat)), none, none, none]) ⟨rfl, none, rfl⟩ (fun i σ H' _ ⟨e, _⟩ => by subst e; exact SqL.of hDT) ?_ ?_⟩
        · rintro i y σ H' hy ⟨rfl, z, rfl⟩
          obtain ⟨b, hbi, pb, dxb, qb, rfl, hpb, hqb⟩ := paired_get hT hy
          have hm := List.mem_of_getElem? hbi
          have p1 := tp b hm
          have q1 := V3.le_get (tB b hm).s u
          have s6 := Nat.le_of_dvd (by decide) (sc6 i)
          first | refine ⟨_, rfl, fldV rfl hpb T.c_Band T.a_Band_slopes rfl ⟨_, rfl, ixL (SqL.of hqb) (v3_ix b.s hu) ⟨scaleOf u (ts.take i), (b.s.get u).toNat, ?_, scp i, by (first | lia | omega), by (first | lia | omega), by (first | lia | omega), ?_⟩⟩⟩ | refine ⟨_, rfl, _, rfl, pb, _, dxb, _, _, rfl, hpb, T.c_Band, T.a_Band_slopes, rfl, _, rfl, qb, _, _, _, rfl, rfl, SqL.of hqb, v3_ix b.s hu, scaleOf u (ts.take i), (b.s.get u).toNat, ?_, scp i, by (first | lia | omega), by (first | lia | omega), by (first | lia | omega), ?_⟩
          · show [V.int _, V.int (b.s.get u)] = [V.int _, V.int ((b.s.get u).toNat : Nat)]
            rw [show (((b.s.get u).toNat : Nat) : Int) = b.s.get u by (first | lia | omega)]
          · refine ⟨rfl, some (.ref pb), ?_⟩
            have e : scaleOf u (ts.take (i + 1)) = Nat.lcm (scaleOf u (ts.take i)) (b.s.get u).toNat := by
              unfold scaleOf
              rw [take_snoc hbi, List.foldl_append]
              rfl
            rw [e]
            rfl
        · rintro σ H' ⟨rfl, z, rfl⟩
          have s6 := Nat.le_of_dvd (by decide) (sc6 ts.length)
          rw [wl, List.take_length]
          rw [List.take_length] at s6
          have p12 := Nat.le_of_dvd (by decide) hb.per
          have per72 : scaleOf u ts * o.2 ≤ 72 := Nat.le_trans (Nat.mul_le_mul s6 p12) (by decide)
          first | refine ⟨_, rfl, fldV rfl (smT _ _ hp) T.c_Outline T.a_Outline_period rfl (i2c (.inl ⟨by (first | lia | omega), by (first | lia | omega)⟩) ?_)⟩ | refine ⟨_, rfl, _, rfl, p, _, dx, _, _, rfl, smT _ _ hp, T.c_Outline, T.a_Outline_period, rfl, _, _, rfl, rfl, .inl ⟨by (first | lia | omega), by (first | lia | omega)⟩, ?_⟩
          first | refine fldV rfl (smT _ _ hp) T.c_Outline T.a_Outline_bands rfl ⟨q, rfl, ⟨_, SqL.of (smT _ _ hq)⟩, fun D3 hD3 => ?_⟩ | refine ⟨_, rfl, p, _, dx, _, _, rfl, smT _ _ hp, T.c_Outline, T.a_Outline_bands, rfl, q, rfl, ⟨_, SqL.of (smT _ _ hq)⟩, fun D3 hD3 => ?_⟩
          have hB4 : BandsAt a.C_Band H4 vs o.1 := hB.same smT
          refine lc_list (K := K) (a := q) (xs := vs) (fun i H' => Same H4 H' ∧ ∃ xs, H' D3 = some (.lst xs) ∧ BandsAt a.C_Band H' xs ((o.1.take i).filter fun b : Band => decide (b.s.get u = 0))) ⟨same_new hD3, [], upd_same, .nil⟩ (fun i H' _ ⟨e, _⟩ => SqL.of (e _ _ (smT _ _ hq))) ?_ ?_
          · rintro i y H' hy ⟨sm, xs, hx, hbs⟩
            obtain ⟨b, hbi, hbx⟩ := paired_get hB4 hy
            have hbx' := hbx.same sm
            obtain ⟨pb, dxb, qb, rfl, hpb, hqb⟩ := hbx
            refine ⟨rfl, ?_⟩
            first | refine fldV rfl (sm _ _ hpb) T.c_Band T.a_Band_slopes rfl ⟨_, rfl, ixL (SqL.of (sm _ _ hqb)) (v3_ix b.s hu) ⟨rfl, _, rfl, ?_⟩⟩ | refine ⟨_, rfl, pb, _, dxb, _, _, rfl, sm _ _ hpb, T.c_Band, T.a_Band_slopes, rfl, _, rfl, qb, _, _, _, rfl, rfl, SqL.of (sm _ _ hqb), v3_ix b.s hu, rfl, _, rfl, ?_⟩
            by_cases hz : b.s.get u = 0
            · refine ifEqT hz ⟨_, rfl, xs, hx, ?_, fun c oc e => ?_, xs ++ [.ref pb], upd_same, ?_⟩
              · have := Paired.length hbs
                have := List.length_filter_le (fun b : Band => decide (b.s.get u = 0)) (o.1.take i)
                rw [List.length_take] at this
                exact line_big (by (first | lia | omega))
              · rw [upd_ne (ne_of_none e hD3)]
                exact sm _ _ e
              · have sx : SameX D3 H' (upd H' D3 (.lst (xs ++ [.ref pb]))) := SameX.upd (fun _ _ e _ => e) _
                rw [take_snoc hbi, filter_snoc, if_pos (by simpa using hz)]
                exact Paired.app (hbs.sameX hx hbs.noInts sx) (.cons (hbx'.sameX hx hbs.noInts sx) .nil)
            · refine ifEqF hz ⟨sm, xs, hx, ?_⟩
              rw [take_snoc hbi, filter_snoc, if_neg (by simpa using hz), List.append_nil]
              exact hbs
          · rintro H5 ⟨sm5, xs5, hx5, hbs5⟩
            rw [vl, List.take_length] at hbs5
            have hT5 : BandsAt a.C_Band H5 ws ts := hT.same sm5
            have hD5 := sm5 _ _ hDT
            have D13 : D1 ≠ D3 := ne_of_none hDT hD3
            have xl : xs5.length ≤ 64 := by
              have := Paired.length hbs5
              have := List.length_filter_le (fun b : Band => decide (b.s.get u = 0)) o.1
              (first | lia | omega)
            refine ⟨_, rfl, D1, rfl, ⟨_, SqL.of hD5⟩, for_list (K := K) (a := D1) (xs := ws) (fun i σ H' => SameX D3 H5 H' ∧ (∃ y z : Option V, σ = [some (.int (u : Nat)), some (.ref p), some (.ref D1), y, none, some (.int (scaleOf u ts : Nat)), some (.int (((scaleOf u ts : Nat) : Int) * ((o.2 : Nat) : Int))), some (.ref D3), z]) ∧
              ∃ xs, H' D3 = some (.lst xs) ∧ xs.length ≤ 64 + 65 * i ∧ BandsAt a.C_Band H' xs ((o.1.filter fun b : Band => decide (b.s.get u = 0)) ++ (ts.take i).flatMap fun st => ts.map fun b => putIn u (scaleOf u ts) (scaleOf u ts * o.2) st b)) ?_ (fun i σ H' _ ⟨e, _⟩ => SqL.of (e _ _ hD5 D13)) ?_ ?_⟩
            · exact ⟨fun _ _ e _ => e, ⟨_, _, rfl⟩, xs5, hx5, by (first | lia | omega), by simpa using hbs5⟩
            · rintro i y σ H' hy ⟨sx6, ⟨y3, z8, rfl⟩, xs6, hx6, xl6, hbs6⟩
              obtain ⟨st, hsti, hst⟩ := paired_get hT5 hy
              have hi : i < ws.length := (List.getElem?_eq_some_iff.mp hy).1
              have hstm := List.mem_of_getElem? hsti
              have hT6 : BandsAt a.C_Band H' ws ts := hT5.sameX hx5 hbs5.noInts sx6
              have hst6 : BandAt a.C_Band H' y st := hst.sameX hx5 hbs5.noInts sx6
              have hD6 : H' D1 = some (.lst ws) := sx6 _ _ hD5 D13
              obtain ⟨py, _, _, rfl, _⟩ := id hst6
              refine ⟨_, rfl, .inl ⟨rfl, _, SqL.of hx6⟩, _, rfl, D1, rfl, ⟨_, SqL.of hD6⟩, fun D4 hD4 => ?_⟩
              refine lc_list (K := K) (a := D1) (xs := ws) (fun j H2 => Same H' H2 ∧ ∃ zs, H2 D4 = some (.lst zs) ∧ BandsAt a.C_Band H2 zs ((ts.take j).map fun b => putIn u (scaleOf u ts) (scaleOf u ts * o.2) st b)) ⟨same_new hD4, [], upd_same, .nil⟩ (fun j H2 _ ⟨e, _⟩ => SqL.of (e _ _ hD6)) ?_ ?_
              · rintro j x2 H2 hx2 ⟨sm, zs, hz, hbs⟩
                obtain ⟨b, hbj, hbx⟩ := paired_get hT6 hx2
                have hbm := List.mem_of_getElem? hbj
                obtain ⟨pb, _, _, rfl, _⟩ := id hbx
                refine ⟨rfl, ?_⟩
                refine ⟨_, rfl, _, rfl, _, rfl, _, rfl, _, rfl, .ref py, .ref pb, u, scaleOf u ts, scaleOf u ts * o.2, st, b, by rw [Int.natCast_mul]; rfl, hu, hst6.same sm, hbx.same sm, s6, per72, tp st hstm, tB st hstm, tB b hbm, fun v' H3' s3 hb3 => ?_⟩
                have hz3 := s3 _ _ hz
                have hbs3' := hbs.same s3
                have zl : zs.length ≤ 65 := by
                  have := Paired.length hbs
                  rw [List.length_map, List.length_take] at this
                  (first | lia | omega)
                refine ⟨zs, hz3, line_big (by (first | lia | omega)), fun c oc e => ?_, zs ++ [v'], upd_same, ?_⟩
                · rw [upd_ne (ne_of_none e hD4)]
                  exact s3 _ _ (sm _ _ e)
                · have sx : SameX D4 H3' (upd H3' D4 (.lst (zs ++ [v']))) := SameX.upd (fun _ _ e _ => e) _
                  rw [take_snoc hbj, List.map_append]
                  exact Paired.app (hbs3'.sameX hz3 hbs3'.noInts sx) (.cons (hb3.sameX hz3 hbs3'.noInts sx) .nil)
              · rintro H7 ⟨sm7, zs, hz7, hbs7⟩
                rw [wl, List.take_length] at hbs7
                have hx7 := sm7 _ _ hx6
                have zl : zs.length ≤ 65 := by
                  have := Paired.length hbs7
                  rw [List.length_map] at this
                  (first | lia | omega)
                have hbs67 := hbs6.same sm7
                refine ⟨D3, D4, xs6, zs, rfl, rfl, hx7, hz7, Nat.le_of_lt (line_big (by (first | lia | omega))), ?_⟩
                have sx : SameX D3 H7 (upd H7 D3 (.lst (xs6 ++ zs))) := SameX.upd (fun _ _ e _ => e) _
                refine ⟨(sx6.trans (WS.Same.x sm7 D3)).trans sx, ⟨_, _, rfl⟩, xs6 ++ zs, upd_same, by rw [List.length_append]; (first | lia | omega), ?_⟩
                rw [take_snoc hsti, List.flatMap_append, ← List.append_assoc]
                refine Paired.app (hbs67.sameX hx7 hbs67.noInts sx) ?_
                rw [List.flatMap_cons, List.flatMap_nil, List.append_nil]
                exact hbs7.sameX hx7 hbs67.noInts sx
            · rintro σ H8 ⟨sx8, ⟨y3, z8, rfl⟩, xs8, hx8, xl8, hbs8⟩
              rw [wl] at xl8
              rw [wl, List.take_length] at hbs8
              have x8 : xs8.length ≤ 5000 := by (first | lia | omega)
              have l8 : xs8.length = _ := Paired.length hbs8
              have smH8 : Same H H8 := fun c oc e => sx8 _ _ (sm5 _ _ (smT _ _ e)) (fun z => by rw [z] at e; have := smT _ _ e; rw [hD3] at this; cases this)
              generalize hall : (o.1.filter fun b : Band => decide (b.s.get u = 0)) ++ ts.flatMap (fun st => ts.map fun b => putIn u (scaleOf u ts) (scaleOf u ts * o.2) st b) = all at hbs8 l8
              have allB : ∀ b ∈ all, b.s.le 576 := by
                intro b hb'
                rw [← hall] at hb'
                rcases List.mem_append.mp hb' with z | z
                · exact le_mono (hb.band b (List.mem_filter.mp z).1).s (by decide)
                · obtain ⟨st, hst, z⟩ := List.mem_flatMap.mp z
                  obtain ⟨b2, hb2, rfl⟩ := List.mem_map.mp z
                  exact le_mono (putIn_B s6 per72 (tB st hst) (tB b2 hb2) (by decide) (tp st hst)).1.s (by decide)
              refine ⟨_, rfl, D3, rfl, ⟨_, SqL.of hx8⟩, fun D5 hD5' => ?_⟩
              refine lc_list (K := K) (a := D3) (xs := xs8) (fun i H' => Same H8 H' ∧ ∃ zs, H' D5 = some (.lst zs) ∧ BandsAt a.C_Band H' zs (((all.take i).filter fun b : Band => !b.s.isZ).map lowest)) ⟨same_new hD5', [], upd_same, .nil⟩ (fun i H' _ ⟨e, _⟩ => SqL.of (e _ _ hx8)) ?_ ?_
              · rintro i y H' hy ⟨sm, zs, hz, hbs⟩
                obtain ⟨b, hbi, hbx⟩ := paired_get hbs8 hy
                have hbm := List.mem_of_getElem? hbi
                have hbx' := hbx.same sm
                obtain ⟨pb, dxb, qb, rfl, hpb, hqb⟩ := hbx
                refine ⟨rfl, ?_⟩
                first | refine fldV rfl (sm _ _ hpb) T.c_Band T.a_Band_slopes rfl ⟨qb, [b.s.x, b.s.y, b.s.z], rfl, SqL.of (sm _ _ hqb), _, rfl, ?_⟩ | refine ⟨_, rfl, pb, _, dxb, _, _, rfl, sm _ _ hpb, T.c_Band, T.a_Band_slopes, rfl, qb, [b.s.x, b.s.y, b.s.z], rfl, SqL.of (sm _ _ hqb), _, rfl, ?_⟩
                rw [any_isZ]
                cases hzz : b.s.isZ with
                | true =>
                  refine iteF ⟨sm, zs, hz, ?_⟩
                  rw [take_snoc hbi, filter_snoc, if_neg (by rw [hzz]; simp), List.append_nil]
                  exact hbs
                | false =>
                  refine iteT ⟨_, rfl, _, b, rfl, hbx', allB b hbm, hzz, fun v' H2 s2 hb2 => ?_⟩
                  have hz2 := s2 _ _ hz
                  have hbs2 := hbs.same s2
                  have zl : zs.length ≤ 5000 := by
                    have e1 := Paired.length hbs
                    rw [List.length_map] at e1
                    have e2 := List.length_filter_le (fun b : Band => !b.s.isZ) (all.take i)
                    rw [List.length_take] at e2
                    (first | lia | omega)
                  refine ⟨zs, hz2, line_big (by (first | lia | omega)), fun c oc e => ?_, zs ++ [v'], upd_same, ?_⟩
                  · rw [upd_ne (ne_of_none e hD5')]
                    exact s2 _ _ (sm _ _ e)
                  · have sx : SameX D5 H2 (upd H2 D5 (.lst (zs ++ [v']))) := SameX.upd (fun _ _ e _ => e) _
                    rw [take_snoc hbi, filter_snoc, if_pos (by rw [hzz]; rfl), List.map_append]
                    exact Paired.app (hbs2.sameX hz2 hbs2.noInts sx) (.cons (hb2.sameX hz2 hbs2.noInts sx) .nil)
              · rintro H9 ⟨sm9, zs, hz9, hbs9⟩
                rw [l8, List.take_length] at hbs9
                refine ⟨_, rfl, ?_⟩
                intro x9 dx9 nx9 nd9 ne9
                refine ⟨x9, dx9, D5, _, rfl, upd_same, rfl, ?_⟩
                obtain ⟨sm10, e10⟩ := made (C := a.C_Outline) (fs := olF D5 (((scaleOf u ts : Nat) : Int) * ((o.2 : Nat) : Int))) nx9 nd9 ne9
                refine k _ _ ((smH8.trans sm9).trans sm10) ⟨x9, dx9, D5, zs, rfl, ?_, sm10 _ _ hz9, ?_⟩
                · rw [e10]
                  show some (HO.ins _ _ (olF D5 _)) = some (HO.ins _ _ (olF D5 ((scaleOf u (turning u o.1) * o.2 : Nat) : Int)))
                  rw [hts, Int.natCast_mul]
                · have e : (without u o).1 = (all.filter fun b : Band => !b.s.isZ).map lowest := by
                    unfold without
                    simp only [hts, hall]
                  rw [e]
                  exact hbs9.same sm10
end
end WS
end
section
set_option Elab.async false
set_option linter.all false
set_option maxRecDepth 100000
set_option maxHeartbeats 1000000
namespace WS
open PySem PySem.Spec PyProof.Rows L2
open Sy15 (T Val put)
open Sy15Neutral (brackets depth small)
theorem ifB {b : Bool} {A B : Prop} (h : b = true) (k : A) : if b = true then A else B := by rw [if_pos h]; exact k
theorem ifBF {b : Bool} {A B : Prop} (h : b = false) (k : B) : if b = true then A else B := by rw [if_neg (by rw [h]; simp)]; exact k
theorem bd_two (s t : T) (o q u : Nat) (b : U) (h1 : Step.bd q u b ∈ code s → (∀ x ∈ brackets b, x ∈ brackets s) ∧ (brackets b).length ≤ (brackets s).length ∧ depth b + 1 ≤ depth s ∧ (WF s → u < 3 ∧ WF b))
    (h2 : Step.bd q u b ∈ code t → (∀ x ∈ brackets b, x ∈ brackets t) ∧ (brackets b).length ≤ (brackets t).length ∧ depth b + 1 ≤ depth t ∧ (WF t → u < 3 ∧ WF b)) (hm : Step.bd q u b ∈ code s ++ (code t ++ [.jn o])) :
    (∀ x ∈ brackets b, x ∈ brackets s ++ brackets t) ∧ (brackets b).length ≤ (brackets s ++ brackets t).length ∧ depth b + 1 ≤ max (depth s) (depth t) ∧ (WF s ∧ WF t → u < 3 ∧ WF b) := by
  rcases List.mem_append.mp hm with z | z
  · have r := h1 z
    exact ⟨fun x hx => List.mem_append_left _ (r.1 x hx), by rw [List.length_append]; (first | lia | omega), by (first | lia | omega), fun w => r.2.2.2 w.1⟩
  · rcases List.mem_append.mp z with z | z
    · have r := h2 z
      exact ⟨fun x hx => List.mem_append_right _ (r.1 x hx), by rw [List.length_append]; (first | lia | omega), by (first | lia | omega), fun w => r.2.2.2 w.2⟩
    · simp at z
theorem code_bd : ∀ {t : T} {q u : Nat} {b : U}, Step.bd q u b ∈ code t → (∀ x ∈ brackets b, x ∈ brackets t) ∧ (brackets b).length ≤ (brackets t).length ∧ depth b + 1 ≤ depth t ∧ (WF t → u < 3 ∧ WF b) := by
  intro t
  induction t with
  | less a b => intro q u b h; simp [code] at h
  | same a b => intro q u b h; simp [code] at h
  | rest a m r => intro q u b h; simp [code] at h
  | not t ih =>
    intro q u b h
    rcases List.mem_append.mp h with z | z
    · exact ih z
    · simp at z
  | and s t ihs iht => intro q u b h; exact bd_two s t 38 q u b ihs iht h
  | or s t ihs iht => intro q u b h; exact bd_two s t 124 q u b ihs iht h
  | then_ s t ihs iht => intro q u b h; exact bd_two s t 62 q u b ihs iht h
  | all w t ih =>
    intro q u b h
    simp [code] at h
    obtain ⟨rfl, rfl, rfl⟩ := h
    exact ⟨fun x hx => hx, Nat.le_refl _, Nat.le_refl _, fun w => w⟩
  | some_ w t ih =>
    intro q u b h
    simp [code] at h
    obtain ⟨rfl, rfl, rfl⟩ := h
    exact ⟨fun x hx => hx, Nat.le_refl _, Nat.le_refl _, fun w => w⟩
theorem code_bdU : ∀ {t : U} {q u : Nat} {b : U}, Step.bd q u b ∈ codeU t → (∀ x ∈ brackets b, x ∈ brackets t) ∧ (brackets b).length ≤ (brackets t).length ∧ depth b + 1 ≤ depth t ∧ (WF t → u < 3 ∧ WF b)
  | .of _, _, _, _, h => code_bd h
  | .diff s t, q, u, b, h => bd_two s t 94 q u b code_bd code_bd h
  | .ex w t, q, u, b, h => by
    simp [codeU] at h
    obtain ⟨rfl, rfl, rfl⟩ := h
    exact ⟨fun x hx => hx, Nat.le_refl _, Nat.le_refl _, fun w => w⟩
theorem small_sub {s t : T} (h : ∀ x ∈ brackets s, x ∈ brackets t) (g : small t = true) : small s = true := by
  unfold small at *
  rw [List.all_eq_true] at *
  exact fun x hx => g x (h x hx)
theorem fit_bd {t : U} (h : Fit t) {q u : Nat} {b : U} (hm : Step.bd q u b ∈ codeU t) : u < 3 ∧ WF b ∧ depth b = 0 ∧ small b = true ∧ Fit b := by
  have r := code_bdU hm
  obtain ⟨wf, hb, hl, hd⟩ := h
  have wb := r.2.2.2 wf
  rcases hd with hd | ⟨hd, hs⟩
  · (first | lia | omega)
  · have sb := small_sub r.1 hs
    exact ⟨wb.1, wb.2, by (first | lia | omega), sb, wb.2, fun x hx => hb x (r.1 x hx), by (first | lia | omega), .inl (by (first | lia | omega))⟩
theorem olStep_mono (o : Ol) (s : Step) : o.2 ∣ (olStep o s).2 ∧ o.1.length ≤ (olStep o s).1.length := by
  cases s with
  | less a b => exact ⟨Nat.dvd_refl _, by simp [olStep]⟩
  | same a b => exact ⟨Nat.dvd_refl _, by simp [olStep]⟩
  | rest a m r => exact ⟨Nat.dvd_lcm_left _ _, Nat.le_refl _⟩
  | nt => exact ⟨Nat.dvd_refl _, Nat.le_refl _⟩
  | jn o' => exact ⟨Nat.dvd_refl _, Nat.le_refl _⟩
  | bd q u t => exact ⟨Nat.dvd_lcm_left _ _, by simp [olStep]⟩
theorem olFold_mono : ∀ (l : List Step) (o : Ol), o.2 ∣ (l.foldl olStep o).2 ∧ o.1.length ≤ (l.foldl olStep o).1.length
  | [], o => ⟨Nat.dvd_refl _, Nat.le_refl _⟩
  | s :: l, o => by
    have h1 := olStep_mono o s
    have h2 := olFold_mono l (olStep o s)
    exact ⟨Nat.dvd_trans h1.1 h2.1, Nat.le_trans h1.2 h2.2⟩
def olTo (t : U) (i : Nat) : Ol := ((codeU t).take i).foldl olStep ([], 1)
theorem olTo_all (t : U) : olTo t (codeU t).length = ol t := by
  unfold olTo
  rw [List.take_length, ol_codeU]
  rfl
theorem olTo_fit {t : U} (h : Fit t) (i : Nat) : 0 < (olTo t i).2 ∧ (olTo t i).2 ≤ 2520 ∧ (olTo t i).1.length ≤ 4480 := by
  have f := fit_ol h
  have m := olFold_mono ((codeU t).drop i) (olTo t i)
  have e : ((codeU t).drop i).foldl olStep (olTo t i) = ol t := by
    unfold olTo
    rw [← List.foldl_append, List.take_append_drop, ol_codeU]
    rfl
  rw [e] at m
  have d := Nat.le_of_dvd f.pos m.1
  have p := f.per
  have l := f.len
  refine ⟨Nat.pos_of_dvd_of_pos m.1 f.pos, by (first | lia | omega), by (first | lia | omega)⟩
theorem olTo_succ {t : U} {i : Nat} {s : Step} (h : (codeU t)[i]? = some s) : olTo t (i + 1) = olStep (olTo t i) s := by
  unfold olTo
  rw [take_snoc h, List.foldl_append]
  rfl
theorem BandsAt.new {C d : Addr} {H : Hp} {o : HO} (hd : H d = none) {vs : List V} {bs : List Band} (h : BandsAt C H vs bs) : BandsAt C (upd H d o) vs bs := BandsAt.same (same_new hd) h
section
variable {P : Program} {w : World} {K : PySem.W.Frag} {mg : Str → Option Value} {base : Heap} {a : Adr}
theorem fn_never {CX : CXT} {k : Nat} {f : Addr} {fd : FuncData} {ps : List Str} {sp : Sp} (h : ∀ vs H Q E, ¬ sp vs H Q E) : FnOk P w K mg base CX k f fd ps sp :=
  ⟨fun vs H Q E q => (h vs H Q E q).elim, fun A outer s H args us vs Q E _ _ _ _ q => (h vs H Q E q).elim⟩
def sp_outline_of (K : PySem.W.Frag) (CO CB : Addr) (d : Nat) : Sp := fun vs H Q _ => ∃ (x : Addr) (xs : List V) (t : U), vs = [.ref x] ∧ SqL K H x xs ∧ CodeAt H D0 xs (codeU t) ∧ Fit t ∧ depth t < d ∧ ∀ v' H', Same H H' → OlAt CO CB H' v' (ol t) → Q v' H'
@[reducible] def t_outline_of_0 (K : PySem.W.Frag) (a : Adr) (E : XK) (d : Nat) : TS := (tRet (tMake a.C_Outline (sp_Outline_init a.C_Outline) [] E0 (tCons (tVar 1) (tCons (tVar 2) tNil))))
@[reducible] def t_outline_of_1 (K : PySem.W.Frag) (a : Adr) (E : XK) (d : Nat) : TS := (tDrop (tBM K "list" rAppend (tVar 1) (tCons (tMake a.C_Band (sp_Band_init a.C_Band) [] E0 (tCons (tOp (rIxT K) (tVar 3) (tC (.int 1))) (tCons (tOp (rIxT K) (tVar 3) (tC (.int 2))) (tCons (tOp (rIxT K) (tVar 3) (tC (.int 2))) tNil)))) tNil)))
@[reducible] def t_outline_of_2 (K : PySem.W.Frag) (a : Adr) (E : XK) (d : Nat) : TS := (tAsg (tCall sp_common_multiple [] E0 (tCons (tVar 2) (tCons (tOp (rIxT K) (tVar 3) (tC (.int 3))) tNil))) (gName 2))
@[reducible] def t_outline_of_3 (K : PySem.W.Frag) (a : Adr) (E : XK) (d : Nat) : TS := (tAsg (tCall sp_common_multiple [] E0 (tCons (tVar 2) (tCons (tFld K (tVar 4) "period") tNil))) (gName 2))
@[reducible] def t_outline_of_4 (K : PySem.W.Frag) (a : Adr) (E : XK) (d : Nat) : TS := tSeq (tDrop (tBM K "list" rExtend (tVar 1) (tCons (tFld K (tVar 4) "bands") tNil))) (t_outline_of_3 K a E d)
@[reducible] def t_outline_of_5 (K : PySem.W.Frag) (a : Adr) (E : XK) (d : Nat) : TS := tSeq (tAsg (tCall (sp_outline_without a.C_Outline a.C_Band) [] E0 (tCons (tOp (rIxT K) (tVar 3) (tC (.int 1))) (tCons (tCall (sp_outline_of K a.C_Outline a.C_Band d) [] E0 (tCons (tOp (rIxT K) (tVar 3) (tC (.int 2))) tNil)) tNil))) (gName 4)) (t_outline_of_4 K a E d)
@[reducible] def t_outline_of_6 (K : PySem.W.Frag) (a : Adr) (E : XK) (d : Nat) : TS := (tIfS (tTest (tOp (rIn K false) (tOp (rIxT K) (tVar 3) (tC (.int 0))) (tTup (tCons (tC (.int (65))) (tCons (tC (.int (69))) tNil))))) (t_outline_of_5 K a E d) tNext)
@[reducible] def t_outline_of_7 (K : PySem.W.Frag) (a : Adr) (E : XK) (d : Nat) : TS := (tIfS (tTest (tOp rEq (tOp (rIxT K) (tVar 3) (tC (.int 0))) (tC (.int (37))))) (t_outline_of_2 K a E d) (t_outline_of_6 K a E d))
@[reducible] def t_outline_of_8 (K : PySem.W.Frag) (a : Adr) (E : XK) (d : Nat) : TS := (tIfS (tTest (tOp (rIn K false) (tOp (rIxT K) (tVar 3) (tC (.int 0))) (tTup (tCons (tC (.int (60))) (tCons (tC (.int (61))) tNil))))) (t_outline_of_1 K a E d) (t_outline_of_7 K a E d))
@[reducible] def t_outline_of_9 (K : PySem.W.Frag) (a : Adr) (E : XK) (d : Nat) : TS := tSeq (tFor (iList K (tVar 0)) (gName 3) (t_outline_of_8 K a E d)) (t_outline_of_0 K a E d)
@[reducible] def t_outline_of_10 (K : PySem.W.Frag) (a : Adr) (E : XK) (d : Nat) : TS := tSeq (tAsg (tC (.int 1)) (gName 2)) (t_outline_of_9 K a E d)
@[reducible] def t_outline_of_11 (K : PySem.W.Frag) (a : Adr) (E : XK) (d : Nat) : TS := tSeq (tAsg (tLst tNil) (gName 1)) (t_outline_of_10 K a E d)
theorem ok_outline_of (T : Txt K mg a) : ∀ d : Nat, FnOk P w K mg base CX0 (6 + d) a.f_outline_of a.d_outline_of ["steps"] (sp_outline_of K a.C_Outline a.C_Band d)
  | 0 => fn_never fun vs H Q E q => by
    obtain ⟨_, _, _, _, _, _, _, z, _⟩ := q
    exact absurd z (Nat.not_lt_zero _)
  | d + 1 => by
    have G_outline_of : FnOk P w K mg base CX0 (6 + d) a.f_outline_of a.d_outline_of ["steps"] (sp_outline_of K a.C_Outline a.C_Band d) := ok_outline_of T d
    have G_Band_init : FnOk P w K mg base CX0 1 a.f_Band_init a.d_Band_init ["self", "slopes", "low", "high"] (sp_Band_init a.C_Band) := ok_Band_init T
    have G_Outline_init : FnOk P w K mg base CX0 1 a.f_Outline_init a.d_Outline_init ["self", "bands", "period"] (sp_Outline_init a.C_Outline) := ok_Outline_init T
    have G_outline_without : FnOk P w K mg base CX0 5 a.f_outline_without a.d_outline_without ["unknown", "inner"] (sp_outline_without a.C_Outline a.C_Band) := ok_outline_without T
    have G_common_multiple : FnOk P w K mg base CX0 2 a.f_common_multiple a.d_common_multiple ["a", "b"] sp_common_multiple := ok_common_multiple T
    refine FnOk.mono (T.f_outline_of.ok (k := 6 + d) sc_outline_of (fun vs H Q E h => ?_) (fun cdv A outer s H vs Q E hr h => ?_)) (by (first | lia | omega))
    · obtain ⟨x, xs, t, rfl, _⟩ := h
      rfl
    · obtain ⟨x, xs, t, rfl, hx, hC, hF, hd, k⟩ := h
      refine ⟨_, (pss_cons (ps_set (i := 1) sc_outline_of.nd rfl (Or.inl rfl) (pe_lst pa_nil))
        (pss_cons (ps_set (i := 2) sc_outline_of.nd rfl (Or.inl rfl) pe_int)
        (pss_cons (ps_for PassesOwn.never rfl (pi_list (pv 0)) (pg_name (i := 3) sc_outline_of.nd rfl (Or.inl rfl)) (pss_one (ps_if (pt_cmpR op_in_seq (pe_ix ix_tup (pv 3) pe_int (fun _ _ => rfl)) (pe_tup (pa_cons (pe_gint rfl T.g_LESS) (pa_cons (pe_gint rfl T.g_EQUAL) pa_nil))) (by with_unfolding_all rfl)) (pss_one (ps_expr (pe_bm PySem.F.plainAttrs_list PySem.F.slot_list_append PySem.F.type_list_append mt_append (pv 1) (pa_cons (pe_make T.k_Band G_Band_init (hr.mono (by (first | lia | omega))) rfl T.m_Band T.b_Band_init .nil pass0 (pa_cons (pe_ix ix_tup (pv 3) pe_int (fun _ _ => rfl)) (pa_cons (pe_ix ix_tup (pv 3) pe_int (fun _ _ => rfl)) (pa_cons (pe_ix ix_tup (pv 3) pe_int (fun _ _ => rfl)) pa_nil)))) pa_nil)))) (pss_one (ps_if (pt_cmpR op_eq (pe_ix ix_tup (pv 3) pe_int (fun _ _ => rfl)) (pe_gint rfl T.g_REST) (nomark _)) (pss_one (ps_set (i := 2) sc_outline_of.nd rfl (Or.inl rfl) (pe_call G_common_multiple (hr.mono (by (first | lia | omega))) rfl T.m_common_multiple T.f_common_multiple.kp T.b_common_multiple .nil pass0 (pa_cons (pv 2) (pa_cons (pe_ix ix_tup (pv 3) pe_int (fun _ _ => rfl)) pa_nil))))) (pss_one (ps_if (pt_cmpR op_in_seq (pe_ix ix_tup (pv 3) pe_int (fun _ _ => rfl)) (pe_tup (pa_cons (pe_gint rfl T.g_ALL) (pa_cons (pe_gint rfl T.g_SOME) pa_nil))) (by with_unfolding_all rfl)) (pss_cons (ps_set (i := 4) sc_outline_of.nd rfl (Or.inl rfl) (pe_call G_outline_without (hr.mono (by (first | lia | omega))) rfl T.m_outline_without T.f_outline_without.kp T.b_outline_without .nil pass0 (pa_cons (pe_ix ix_tup (pv 3) pe_int (fun _ _ => rfl)) (pa_cons (pe_call G_outline_of (hr.mono (by (first | lia | omega))) rfl T.m_outline_of T.f_outline_of.kp T.b_outline_of .nil pass0 (pa_cons (pe_ix ix_tup (pv 3) pe_int (fun _ _ => rfl)) pa_nil)) pa_nil))))
        (pss_cons (ps_expr (pe_bm PySem.F.plainAttrs_list PySem.F.slot_list_extend PySem.F.type_list_extend mt_extend (pv 1) (pa_cons (pe_fld (pv 4) (by rfl)) pa_nil)))
        (pss_one (ps_set (i := 2) sc_outline_of.nd rfl (Or.inl rfl) (pe_call G_common_multiple (hr.mono (by (first | lia | omega))) rfl T.m_common_multiple T.f_common_multiple.kp T.b_common_multiple .nil pass0 (pa_cons (pv 2) (pa_cons (pe_fld (pv 4) (by rfl)) pa_nil))))))) pss_nil)))))))
        (pss_one (ps_ret (pe_make T.k_Outline G_Outline_init (hr.mono (by (first | lia | omega))) rfl T.m_Outline T.b_Outline_init .nil pass0 (pa_cons (pv 1) (pa_cons (pv 2) pa_nil)))))))), ?_⟩
      show (t_outline_of_11 K a E d : TS) _ _ _
      have cl := hC.length
      refine ⟨Nat.zero_le _, fun D hD => ?_⟩
      have sm0 : Same H (upd H D (.lst [])) := same_new hD
      refine ⟨_, rfl, x, rfl, ⟨_, sm0.seq hx⟩, for_list (K := K) (a := x) (xs := xs) (fun i σ H' => Same H H' ∧ (∃ z3 z4 : Option V, σ = [some (.ref x), some (.ref D), some (.int ((olTo t i).2 : Nat)), z3, z4]) ∧ ∃ ws, H' D = some (.lst ws) ∧ BandsAt a.C_Band H' ws (olTo t i).1) ⟨sm0, ⟨none, none, rfl⟩, [], upd_same, .nil⟩ (fun i σ H' _ ⟨e, _⟩ => e.seq hx) ?_ ?_⟩
      · rintro i y σ H' hy ⟨sm, ⟨z3, z4, rfl⟩, ws, hw, hbs⟩
        obtain ⟨st, hsi, hst⟩ := (hC.same' sm).get hy
        have fi := olTo_fit hF i
        have fi' := olTo_fit hF (i + 1)
        rw [olTo_succ hsi] at fi'
        have wl : ws.length = (olTo t i).1.length := Paired.length hbs
        have hmem := List.mem_of_getElem? hsi
        have fin : ∀ (z3 z4 : Option V) (H2 : Hp) (ws2 : List V) (n : Nat), Same H H2 → H2 D = some (.lst ws2) → BandsAt a.C_Band H2 ws2 (olStep (olTo t i) st).1 → n = (olStep (olTo t i) st).2 →
            (Same H H2 ∧ (∃ z3' z4' : Option V, [some (V.ref x), some (.ref D), some (.int (n : Nat)), z3, z4] = [some (.ref x), some (.ref D), some (.int ((olTo t (i + 1)).2 : Nat)), z3', z4']) ∧ ∃ ws, H2 D = some (.lst ws) ∧ BandsAt a.C_Band H2 ws (olTo t (i + 1)).1) := by
          intro z3 z4 H2 ws2 n h1 h2 h3 h4
          rw [olTo_succ hsi, h4]
          exact ⟨h1, ⟨z3, z4, rfl⟩, ws2, h2, h3⟩
        have claim : ∀ (sa sb : Sy15.Sum) (c : Int) (p q : Addr), (c = 60 ∨ c = 61) → olStep (olTo t i) st = ((olTo t i).1 ++ [⟨dsl sa sb, dcn sa sb, dcn sa sb⟩], (olTo t i).2) → H' p = some (.tup [.int c, .ref q, .int (dcn sa sb)]) → H' q = some (.lst (v3l (dsl sa sb))) → y = .ref p → True := fun _ _ _ _ _ _ _ _ _ _ => trivial
        cases st with
        | less sa sb =>
          obtain ⟨p, q, rfl, hp, hq⟩ := hst
          first | refine ⟨_, rfl, ixT (SqT.of hp) rfl ⟨by show 2 ≤ sizeLine; decide, fun tp htp => inS (SqT.of upd_same) rfl rfl (tk (ifB rfl ?_))⟩⟩ | refine ⟨_, rfl, p, _, _, _, rfl, rfl, SqT.of hp, rfl, by show 2 ≤ sizeLine; decide, fun tp htp => ⟨tp, _, rfl, .inr (SqT.of upd_same), rfl, rfl, _, rfl, ifB rfl ?_⟩⟩
          have s1 : Same H' (upd H' tp (.tup [.int 60, .int 61])) := same_new htp
          generalize upd H' tp (.tup [.int 60, .int 61]) = H1 at s1
          first | refine ⟨_, rfl, .inl ⟨rfl, _, SqL.of (s1 _ _ hw)⟩, _, rfl, ixT (SqT.of (s1 _ _ hp)) rfl ⟨_, rfl, ixT (SqT.of (s1 _ _ hp)) rfl ⟨_, rfl, ixT (SqT.of (s1 _ _ hp)) rfl ?_⟩⟩⟩ | refine ⟨_, rfl, .inl ⟨rfl, _, SqL.of (s1 _ _ hw)⟩, _, rfl, p, _, _, _, rfl, rfl, SqT.of (s1 _ _ hp), rfl, _, rfl, p, _, _, _, rfl, rfl, SqT.of (s1 _ _ hp), rfl, _, rfl, p, _, _, _, rfl, rfl, SqT.of (s1 _ _ hp), rfl, ?_⟩
          intro xb dxb nxb ndb neb
          refine ⟨xb, dxb, q, dcn sa sb, dcn sa sb, rfl, upd_same, rfl, ?_⟩
          obtain ⟨s2, e2⟩ := made (C := a.C_Band) (fs := bandF q (dcn sa sb) (dcn sa sb)) nxb ndb neb
          first | refine apd (s2 _ _ (s1 _ _ hw)) (line_big (by (first | lia | omega))) ?_ | refine ⟨D, ws, _, rfl, rfl, s2 _ _ (s1 _ _ hw), line_big (by (first | lia | omega)), ?_⟩
          generalize upd (upd (upd H1 dxb (.own xb)) xb (.ins a.C_Band dxb [])) xb (.ins a.C_Band dxb (bandF q (dcn sa sb) (dcn sa sb))) = H2 at s2 e2
          have s12 := s1.trans s2
          have hw2 := s12 _ _ hw
          have hbs2 := hbs.same s12
          have sx : SameX D H2 (upd H2 D (.lst (ws ++ [.ref xb]))) := SameX.upd (fun _ _ e _ => e) _
          have nb : BandAt a.C_Band H2 (.ref xb) ⟨dsl sa sb, dcn sa sb, dcn sa sb⟩ := ⟨xb, dxb, q, rfl, e2, s12 _ _ hq⟩
          exact fin _ _ _ (ws ++ [.ref xb]) _ (fun c oc e => by rw [upd_ne (ne_of_none e hD)]; exact s12 _ _ (sm _ _ e)) upd_same (Paired.app (hbs2.sameX hw2 hbs2.noInts sx) (.cons (nb.sameX hw2 hbs2.noInts sx) .nil)) rfl
        | same sa sb =>
          obtain ⟨p, q, rfl, hp, hq⟩ := hst
          first | refine ⟨_, rfl, ixT (SqT.of hp) rfl ⟨by show 2 ≤ sizeLine; decide, fun tp htp => inS (SqT.of upd_same) rfl rfl (tk (ifB rfl ?_))⟩⟩ | refine ⟨_, rfl, p, _, _, _, rfl, rfl, SqT.of hp, rfl, by show 2 ≤ sizeLine; decide, fun tp htp => ⟨tp, _, rfl, .inr (SqT.of upd_same), rfl, rfl, _, rfl, ifB rfl ?_⟩⟩
          have s1 : Same H' (upd H' tp (.tup [.int 60, .int 61])) := same_new htp
          generalize upd H' tp (.tup [.int 60, .int 61]) = H1 at s1
          first | refine ⟨_, rfl, .inl ⟨rfl, _, SqL.of (s1 _ _ hw)⟩, _, rfl, ixT (SqT.of (s1 _ _ hp)) rfl ⟨_, rfl, ixT (SqT.of (s1 _ _ hp)) rfl ⟨_, rfl, ixT (SqT.of (s1 _ _ hp)) rfl ?_⟩⟩⟩ | refine ⟨_, rfl, .inl ⟨rfl, _, SqL.of (s1 _ _ hw)⟩, _, rfl, p, _, _, _, rfl, rfl, SqT.of (s1 _ _ hp), rfl, _, rfl, p, _, _, _, rfl, rfl, SqT.of (s1 _ _ hp), rfl, _, rfl, p, _, _, _, rfl, rfl, SqT.of (s1 _ _ hp), rfl, ?_⟩
          intro xb dxb nxb ndb neb
          refine ⟨xb, dxb, q, dcn sa sb, dcn sa sb, rfl, upd_same, rfl, ?_⟩
          obtain ⟨s2, e2⟩ := made (C := a.C_Band) (fs := bandF q (dcn sa sb) (dcn sa sb)) nxb ndb neb
          first | refine apd (s2 _ _ (s1 _ _ hw)) (line_big (by (first | lia | omega))) ?_ | refine ⟨D, ws, _, rfl, rfl, s2 _ _ (s1 _ _ hw), line_big (by (first | lia | omega)), ?_⟩
          generalize upd (upd (upd H1 dxb (.own xb)) xb (.ins a.C_Band dxb [])) xb (.ins a.C_Band dxb (bandF q (dcn sa sb) (dcn sa sb))) = H2 at s2 e2
          have s12 := s1.trans s2
          have hw2 := s12 _ _ hw
          have hbs2 := hbs.same s12
          have sx : SameX D H2 (upd H2 D (.lst (ws ++ [.ref xb]))) := SameX.upd (fun _ _ e _ => e) _
          have nb : BandAt a.C_Band H2 (.ref xb) ⟨dsl sa sb, dcn sa sb, dcn sa sb⟩ := ⟨xb, dxb, q, rfl, e2, s12 _ _ hq⟩
          exact fin _ _ _ (ws ++ [.ref xb]) _ (fun c oc e => by rw [upd_ne (ne_of_none e hD)]; exact s12 _ _ (sm _ _ e)) upd_same (Paired.app (hbs2.sameX hw2 hbs2.noInts sx) (.cons (nb.sameX hw2 hbs2.noInts sx) .nil)) rfl
        | rest sa m r =>
          obtain ⟨p, q, rfl, hp, hq⟩ := hst
          have hBS := (fine_codeU hF.fine _ hmem).1
          first | refine ⟨_, rfl, ixT (SqT.of hp) rfl ⟨by show 2 ≤ sizeLine; decide, fun tp htp => inS (SqT.of upd_same) rfl rfl (tk (ifBF rfl ?_))⟩⟩ | refine ⟨_, rfl, p, _, _, _, rfl, rfl, SqT.of hp, rfl, by show 2 ≤ sizeLine; decide, fun tp htp => ⟨tp, _, rfl, .inr (SqT.of upd_same), rfl, rfl, _, rfl, ifBF rfl ?_⟩⟩
          have s1 : Same H' (upd H' tp (.tup [.int 60, .int 61])) := same_new htp
          generalize upd H' tp (.tup [.int 60, .int 61]) = H1 at s1
          first | refine ⟨_, rfl, ixT (SqT.of (s1 _ _ hp)) rfl ⟨rfl, tk (ifEqT rfl ?_)⟩⟩ | refine ⟨_, rfl, p, _, _, _, rfl, rfl, SqT.of (s1 _ _ hp), rfl, rfl, _, rfl, ifEqT rfl ?_⟩
          first | refine ⟨_, rfl, _, rfl, ixT (SqT.of (s1 _ _ hp)) rfl ⟨(olTo t i).2, m, rfl, fi.1, by have := hBS.2.1; (first | lia | omega), by (first | lia | omega), by have := hBS.2.2; (first | lia | omega), ?_⟩⟩ | refine ⟨_, rfl, _, rfl, p, _, _, _, rfl, rfl, SqT.of (s1 _ _ hp), rfl, (olTo t i).2, m, rfl, fi.1, by have := hBS.2.1; (first | lia | omega), by (first | lia | omega), by have := hBS.2.2; (first | lia | omega), ?_⟩
          exact fin _ _ _ ws _ (sm.trans s1) (s1 _ _ hw) (hbs.same s1) rfl
        | nt =>
          obtain ⟨p, rfl, hp⟩ := hst
          first | refine ⟨_, rfl, ixT (SqT.of hp) rfl ⟨by show 2 ≤ sizeLine; decide, fun tp htp => inS (SqT.of upd_same) rfl rfl (tk (ifBF rfl ?_))⟩⟩ | refine ⟨_, rfl, p, _, _, _, rfl, rfl, SqT.of hp, rfl, by show 2 ≤ sizeLine; decide, fun tp htp => ⟨tp, _, rfl, .inr (SqT.of upd_same), rfl, rfl, _, rfl, ifBF rfl ?_⟩⟩
          have s1 : Same H' (upd H' tp (.tup [.int 60, .int 61])) := same_new htp
          generalize upd H' tp (.tup [.int 60, .int 61]) = H1 at s1
          first | refine ⟨_, rfl, ixT (SqT.of (s1 _ _ hp)) rfl ⟨rfl, tk (ifEqF (by decide) ?_)⟩⟩ | refine ⟨_, rfl, p, _, _, _, rfl, rfl, SqT.of (s1 _ _ hp), rfl, rfl, _, rfl, ifEqF (by decide) ?_⟩
          first | refine ⟨_, rfl, ixT (SqT.of (s1 _ _ hp)) rfl ⟨by show 2 ≤ sizeLine; decide, fun tp2 htp2 => inS (SqT.of upd_same) rfl rfl (tk (ifBF rfl ?_))⟩⟩ | refine ⟨_, rfl, p, _, _, _, rfl, rfl, SqT.of (s1 _ _ hp), rfl, by show 2 ≤ sizeLine; decide, fun tp2 htp2 => ⟨tp2, _, rfl, .inr (SqT.of upd_same), rfl, rfl, _, rfl, ifBF rfl ?_⟩⟩
          have s2 : Same H1 (upd H1 tp2 (.tup [.int 65, .int 69])) := same_new htp2
          exact fin _ _ _ ws _ (sm.trans (s1.trans s2)) (s2 _ _ (s1 _ _ hw)) (hbs.same (s1.trans s2)) rfl
        | jn o =>
          obtain ⟨p, rfl, ho, hp⟩ := hst
          have o1 : o ≠ 60 ∧ o ≠ 61 ∧ o ≠ 37 ∧ o ≠ 65 ∧ o ≠ 69 := by unfold isK isJ at ho; (first | lia | omega)
          have in2 : ∀ c d : Nat, o ≠ c → o ≠ d → inV (.int (o : Nat)) [.int (c : Nat), .int (d : Nat)] = false := by
            intro c d h1 h2
            show ((((c : Nat) : Int) == ((o : Nat) : Int)) || ((((d : Nat) : Int) == ((o : Nat) : Int)) || false)) = false
            rw [Bool.beq_eq_decide_eq, Bool.beq_eq_decide_eq]
            simp
            (first | lia | omega)
          first | refine ⟨_, rfl, ixT (SqT.of hp) rfl ⟨by show 2 ≤ sizeLine; decide, fun tp htp => inS (SqT.of upd_same) rfl rfl (tk (ifBF (in2 60 61 o1.1 o1.2.1) ?_))⟩⟩ | refine ⟨_, rfl, p, _, _, _, rfl, rfl, SqT.of hp, rfl, by show 2 ≤ sizeLine; decide, fun tp htp => ⟨tp, _, rfl, .inr (SqT.of upd_same), rfl, rfl, _, rfl, ifBF (in2 60 61 o1.1 o1.2.1) ?_⟩⟩
          have s1 : Same H' (upd H' tp (.tup [.int 60, .int 61])) := same_new htp
          generalize upd H' tp (.tup [.int 60, .int 61]) = H1 at s1
          first | refine ⟨_, rfl, ixT (SqT.of (s1 _ _ hp)) rfl ⟨rfl, tk (ifEqF (by (first | lia | omega)) ?_)⟩⟩ | refine ⟨_, rfl, p, _, _, _, rfl, rfl, SqT.of (s1 _ _ hp), rfl, rfl, _, rfl, ifEqF (by (first | lia | omega)) ?_⟩
          first | refine ⟨_, rfl, ixT (SqT.of (s1 _ _ hp)) rfl ⟨by show 2 ≤ sizeLine; decide, fun tp2 htp2 => inS (SqT.of upd_same) rfl rfl (tk (ifBF (in2 65 69 o1.2.2.2.1 o1.2.2.2.2) ?_))⟩⟩ | refine ⟨_, rfl, p, _, _, _, rfl, rfl, SqT.of (s1 _ _ hp), rfl, by show 2 ≤ sizeLine; decide, fun tp2 htp2 => ⟨tp2, _, rfl, .inr (SqT.of upd_same), rfl, rfl, _, rfl, ifBF (in2 65 69 o1.2.2.2.1 o1.2.2.2.2) ?_⟩⟩
          have s2 : Same H1 (upd H1 tp2 (.tup [.int 65, .int 69])) := same_new htp2
          exact fin _ _ _ ws _ (sm.trans (s1.trans s2)) (s2 _ _ (s1 _ _ hw)) (hbs.same (s1.trans s2)) rfl
        | bd q u b =>
          obtain ⟨p, bo, ys, rfl, hqq, hp, hbo, hcode⟩ := hst
          obtain ⟨hu, wfb, db, sb, fb⟩ := fit_bd hF hmem
          have dep := (code_bdU hmem).2.2.1
          have olb := ol_small0 db wfb sb
          have bl := fb.2.2.1
          have in0 : inV (.int (q : Nat)) [.int 60, .int 61] = false := by rcases hqq with rfl | rfl <;> rfl
          have in1 : inV (.int (q : Nat)) [.int 65, .int 69] = true := by rcases hqq with rfl | rfl <;> rfl
          first | refine ⟨_, rfl, ixT (SqT.of hp) rfl ⟨by show 2 ≤ sizeLine; decide, fun tp htp => inS (SqT.of upd_same) rfl rfl (tk (ifBF in0 ?_))⟩⟩ | refine ⟨_, rfl, p, _, _, _, rfl, rfl, SqT.of hp, rfl, by show 2 ≤ sizeLine; decide, fun tp htp => ⟨tp, _, rfl, .inr (SqT.of upd_same), rfl, rfl, _, rfl, ifBF in0 ?_⟩⟩
          have s1 : Same H' (upd H' tp (.tup [.int 60, .int 61])) := same_new htp
          generalize upd H' tp (.tup [.int 60, .int 61]) = H1 at s1
          first | refine ⟨_, rfl, ixT (SqT.of (s1 _ _ hp)) rfl ⟨rfl, tk (ifEqF (by (first | lia | omega)) ?_)⟩⟩ | refine ⟨_, rfl, p, _, _, _, rfl, rfl, SqT.of (s1 _ _ hp), rfl, rfl, _, rfl, ifEqF (by (first | lia | omega)) ?_⟩
          first | refine ⟨_, rfl, ixT (SqT.of (s1 _ _ hp)) rfl ⟨by show 2 ≤ sizeLine; decide, fun tp2 htp2 => inS (SqT.of upd_same) rfl rfl (tk (ifB in1 ?_))⟩⟩ | refine ⟨_, rfl, p, _, _, _, rfl, rfl, SqT.of (s1 _ _ hp), rfl, by show 2 ≤ sizeLine; decide, fun tp2 htp2 => ⟨tp2, _, rfl, .inr (SqT.of upd_same), rfl, rfl, _, rfl, ifB in1 ?_⟩⟩
          have s2 : Same H1 (upd H1 tp2 (.tup [.int 65, .int 69])) := same_new htp2
          generalize upd H1 tp2 (.tup [.int 65, .int 69]) = H2 at s2
          have s12 := s1.trans s2
          first | refine ⟨_, rfl, ixT (SqT.of (s12 _ _ hp)) rfl ⟨_, rfl, ixT (SqT.of (s12 _ _ hp)) rfl ?_⟩⟩ | refine ⟨_, rfl, p, _, _, _, rfl, rfl, SqT.of (s12 _ _ hp), rfl, _, rfl, p, _, _, _, rfl, rfl, SqT.of (s12 _ _ hp), rfl, ?_⟩
          refine ⟨bo, ys, b, rfl, SqL.of (s12 _ _ hbo), hcode.same' s12, fb, by (first | lia | omega), fun v3 H3 s3 hO3 => ?_⟩
          refine ⟨u, v3, ol b, rfl, hu, hO3, (ol_sound wfb ([], 1) (by decide)).1, olb.mono (Int.le_refl _) (Int.le_refl _) (Nat.dvd_refl _) bl, fun v4 H4 s4 hO4 => ?_⟩
          have s14 := (s12.trans s3).trans s4
          obtain ⟨p4, dx4, q4, vs4, rfl, hp4, hq4, hB4⟩ := hO4
          have hw4 := s14 _ _ hw
          have hbs4 := hbs.same s14
          have l4 : vs4.length = (without u (ol b)).1.length := Paired.length hB4
          have lens : ws.length + vs4.length ≤ 4480 := by
            have := fi'.2.2
            simp only [olStep, List.length_append] at this
            (first | lia | omega)
          first | refine ⟨_, rfl, .inl ⟨rfl, _, SqL.of hw4⟩, fldV rfl hp4 T.c_Outline T.a_Outline_bands rfl ⟨D, q4, ws, vs4, rfl, rfl, hw4, hq4, Nat.le_of_lt (line_big (by (first | lia | omega))), ?_⟩⟩ | refine ⟨_, rfl, .inl ⟨rfl, _, SqL.of hw4⟩, _, rfl, p4, _, dx4, _, _, rfl, hp4, T.c_Outline, T.a_Outline_bands, rfl, D, q4, ws, vs4, rfl, rfl, hw4, hq4, Nat.le_of_lt (line_big (by (first | lia | omega))), ?_⟩
          have sx : SameX D H4 (upd H4 D (.lst (ws ++ vs4))) := SameX.upd (fun _ _ e _ => e) _
          have pD : p4 ≠ D := ne_of hp4 hw4 (by intro z; cases z)
          first | refine ⟨_, rfl, fldV rfl (sx _ _ hp4 pD) T.c_Outline T.a_Outline_period rfl ⟨(olTo t i).2, (without u (ol b)).2, rfl, fi.1, without_pos hu (ol_sound wfb ([], 1) (by decide)).1, by (first | lia | omega), ?_, ?_⟩⟩ | refine ⟨_, rfl, _, rfl, p4, _, dx4, _, _, rfl, sx _ _ hp4 pD, T.c_Outline, T.a_Outline_period, rfl, (olTo t i).2, (without u (ol b)).2, rfl, fi.1, without_pos hu (ol_sound wfb ([], 1) (by decide)).1, by (first | lia | omega), ?_, ?_⟩
          · have wB := without_B hu bl olb
            have := Nat.le_of_dvd (by decide) wB.per
            (first | lia | omega)
          · exact fin _ _ _ (ws ++ vs4) _ (fun c oc e => by rw [upd_ne (ne_of_none e hD)]; exact s14 _ _ (sm _ _ e)) upd_same (Paired.app (hbs4.sameX hw4 hbs4.noInts sx) (hB4.sameX hw4 hbs4.noInts sx)) rfl
      · rintro σ H' ⟨sm, ⟨z3, z4, rfl⟩, ws, hw, hbs⟩
        rw [cl, olTo_all] at hbs ⊢
        refine ⟨_, rfl, _, rfl, ?_⟩
        intro x9 dx9 nx9 nd9 ne9
        refine ⟨x9, dx9, D, _, rfl, upd_same, rfl, ?_⟩
        obtain ⟨s10, e10⟩ := made (C := a.C_Outline) (fs := olF D ((ol t).2 : Nat)) nx9 nd9 ne9
        exact k _ _ (sm.trans s10) ⟨x9, dx9, D, ws, rfl, e10, s10 _ _ hw, hbs.same s10⟩
end
end WS
end
section
set_option Elab.async false
set_option linter.all false
set_option maxRecDepth 100000
set_option maxHeartbeats 1000000
namespace WS
open PySem PySem.Spec PyProof.Rows L2
open Sy15 (T Val put)
open Sy15Neutral (brackets depth small)
theorem ptl_at (v : Val) {u : Nat} (hu : u < 3) : (ptl v)[u]? = some (.int (v u : Nat)) := by
  rcases lt3 hu with rfl | rfl | rfl <;> rfl
theorem ptl_set (v : Val) {u : Nat} (hu : u < 3) (n : Nat) : (ptl v).set u (.int (n : Nat)) = ptl (put v u n) := by
  rcases lt3 hu with rfl | rfl | rfl <;> simp [ptl, put]
theorem ptl_ix (v : Val) {u : Nat} (hu : u < 3) : ixN (ptl v).length (u : Int) = some u := by
  rcases lt3 hu with rfl | rfl | rfl <;> rfl
theorem SqT.sameX {K : PySem.W.Frag} {H H' : Hp} {d p : Addr} {xs ws : List V} (hd : H d = some (.lst ws)) (e : SameX d H H') (h : SqT K H p xs) : SqT K H' p xs := by
  rcases h with (h | ⟨o, h⟩) | h
  · exact .inl (.inl (e _ _ h (ne_of h hd (by intro z; cases z))))
  · exact .inl (.inr ⟨o, e _ _ h (ne_of h hd (by intro z; cases z))⟩)
  · exact .inr h
theorem SqT.same {K : PySem.W.Frag} {H H' : Hp} {p : Addr} {xs : List V} (e : Same H H') (h : SqT K H p xs) : SqT K H' p xs := by
  rcases h with (h | ⟨o, h⟩) | h
  · exact .inl (.inl (e _ _ h))
  · exact .inl (.inr ⟨o, e _ _ h⟩)
  · exact .inr h
section
variable {P : Program} {w : World} {K : PySem.W.Frag} {mg : Str → Option Value} {base : Heap} {a : Adr}
def sp_stretches (K : PySem.W.Frag) : Sp := fun vs H Q _ => ∃ (u : Nat) (x q : Addr) (xs : List V) (t : U) (v : Val), vs = [.int (u : Nat), .ref x, .ref q] ∧ u < 3 ∧ SqL K H x xs ∧ CodeAt H D0 xs (codeU t) ∧ Fit t ∧ SqL K H q (ptl v) ∧
  ∀ (l : Addr) (ps : List Addr) (prs : List (Int × Int)) (H' : Hp), Same H H' → H l = none → H' l = some (.lst (ps.map V.ref)) → PairsAt K H' ps prs → prs.Perm (cuts u (ol t) v) → prs.Pairwise (fun x y => x.1 ≤ y.1) → Q (.ref l) H'
@[reducible] def t_stretches_0 (K : PySem.W.Frag) (a : Adr) (E : XK) (d : Nat) : TS := (tRet (tCB (rSortP K) (tCons (tVar 5) tNil)))
@[reducible] def t_stretches_1 (K : PySem.W.Frag) (a : Adr) (E : XK) (d : Nat) : TS := (tDrop (tBM K "list" rAppend (tVar 5) (tCons (tTup (tCons (tCB rMax (tCons (tVar 9) (tCons (tC (.int 0)) tNil))) (tCons (tOp (rI0 fun i j => .int (i + j)) (tOp (rI0 fun i j => .int (i + j)) (tVar 10) (tC (.int 1))) (tFld K (tVar 3) "period")) tNil))) tNil)))
@[reducible] def t_stretches_2 (K : PySem.W.Frag) (a : Adr) (E : XK) (d : Nat) : TS := tSeq (tAsg (tOp (rI CDiv fun i j => .int (i / j)) (tUn (rU fun i => .int (-i)) (tCall (sp_value_at K) [] E0 (tCons (tFld K (tVar 7) "slopes") (tCons (tFld K (tVar 7) "low") (tCons (tVar 4) tNil))))) (tVar 8)) (gName 10)) (t_stretches_1 K a E d)
@[reducible] def t_stretches_3 (K : PySem.W.Frag) (a : Adr) (E : XK) (d : Nat) : TS := tSeq (tAsg (tOp (rI CDiv fun i j => .int (i / j)) (tUn (rU fun i => .int (-i)) (tCall (sp_value_at K) [] E0 (tCons (tFld K (tVar 7) "slopes") (tCons (tFld K (tVar 7) "high") (tCons (tVar 4) tNil))))) (tVar 8)) (gName 9)) (t_stretches_2 K a E d)
@[reducible] def t_stretches_4 (K : PySem.W.Frag) (a : Adr) (E : XK) (d : Nat) : TS := tSeq (tAsg (tOp (rIxL K) (tFld K (tVar 7) "slopes") (tVar 0)) (gName 8)) (t_stretches_3 K a E d)
@[reducible] def t_stretches_5 (K : PySem.W.Frag) (a : Adr) (E : XK) (d : Nat) : TS := tSeq (tAsg (tCall (sp_rising a.C_Band) [] E0 (tCons (tVar 6) (tCons (tVar 0) tNil))) (gName 7)) (t_stretches_4 K a E d)
@[reducible] def t_stretches_6 (K : PySem.W.Frag) (a : Adr) (E : XK) (d : Nat) : TS := (tIfS (tTest (tOp rNe (tOp (rIxL K) (tFld K (tVar 6) "slopes") (tVar 0)) (tC (.int 0)))) (t_stretches_5 K a E d) tNext)
@[reducible] def t_stretches_7 (K : PySem.W.Frag) (a : Adr) (E : XK) (d : Nat) : TS := tSeq (tFor (iList K (tFld K (tVar 3) "bands")) (gName 6) (t_stretches_6 K a E d)) (t_stretches_0 K a E d)
@[reducible] def t_stretches_8 (K : PySem.W.Frag) (a : Adr) (E : XK) (d : Nat) : TS := tSeq (tAsg (tLst (tCons (tTup (tCons (tC (.int 0)) (tCons (tFld K (tVar 3) "period") tNil))) tNil)) (gName 5)) (t_stretches_7 K a E d)
@[reducible] def t_stretches_9 (K : PySem.W.Frag) (a : Adr) (E : XK) (d : Nat) : TS := tSeq (tAsg (tC (.int 0)) (gSub (tVar 4) (tVar 0) rSetL)) (t_stretches_8 K a E d)
@[reducible] def t_stretches_10 (K : PySem.W.Frag) (a : Adr) (E : XK) (d : Nat) : TS := tSeq (tAsg (tCB (rListOf K) (tCons (tVar 2) tNil)) (gName 4)) (t_stretches_9 K a E d)
@[reducible] def t_stretches_11 (K : PySem.W.Frag) (a : Adr) (E : XK) (d : Nat) : TS := tSeq (tAsg (tCall (sp_outline_of K a.C_Outline a.C_Band 2) [] E0 (tCons (tVar 1) tNil)) (gName 3)) (t_stretches_10 K a E d)
theorem ok_stretches (T : Txt K mg a) : FnOk P w K mg base CX0 9 a.f_stretches a.d_stretches ["unknown", "steps", "point"] (sp_stretches K) := by
  have G_outline_of : FnOk P w K mg base CX0 8 a.f_outline_of a.d_outline_of ["steps"] (sp_outline_of K a.C_Outline a.C_Band 2) := ok_outline_of T 2
  have G_rising : FnOk P w K mg base CX0 3 a.f_rising a.d_rising ["band", "unknown"] (sp_rising a.C_Band) := ok_rising T
  have G_value_at : FnOk P w K mg base CX0 1 a.f_value_at a.d_value_at ["slopes", "number", "point"] (sp_value_at K) := ok_value_at T
  refine T.f_stretches.ok sc_stretches (fun vs H Q E h => ?_) (fun cdv A outer s H vs Q E hr h => ?_)
  · obtain ⟨u, x, q, xs, t, v, rfl, _⟩ := h
    rfl
  · obtain ⟨u, x, q, xs, t, v, rfl, hu, hx, hC, hF, hq, k⟩ := h
    refine ⟨_, (pss_cons (ps_set (i := 3) sc_stretches.nd rfl (Or.inl rfl) (pe_call G_outline_of (hr.mono (by decide)) rfl T.m_outline_of T.f_outline_of.kp T.b_outline_of .nil pass0 (pa_cons (pv 1) pa_nil)))
        (pss_cons (ps_set (i := 4) sc_stretches.nd rfl (Or.inl rfl) (pe_callTy call_list_of rfl T.n_list WS.boot_list (pa_cons (pv 2) pa_nil)))
        (pss_cons (ps_asg pe_int (pg_sub (pv 4) (pv 0) set_list))
        (pss_cons (ps_set (i := 5) sc_stretches.nd rfl (Or.inl rfl) (pe_lst (pa_cons (pe_tup (pa_cons pe_int (pa_cons (pe_fld (pv 3) (by rfl)) pa_nil))) pa_nil)))
        (pss_cons (ps_for PassesOwn.never rfl (pi_list (pe_fld (pv 3) (by rfl))) (pg_name (i := 6) sc_stretches.nd rfl (Or.inl rfl)) (pss_one (ps_if (pt_cmpR op_ne (pe_ix ix_list (pe_fld (pv 6) (by rfl)) (pv 0) (fun _ _ => rfl)) pe_int (nomark _)) (pss_cons (ps_set (i := 7) sc_stretches.nd rfl (Or.inl rfl) (pe_call G_rising (hr.mono (by decide)) rfl T.m_rising T.f_rising.kp T.b_rising .nil pass0 (pa_cons (pv 6) (pa_cons (pv 0) pa_nil))))
        (pss_cons (ps_set (i := 8) sc_stretches.nd rfl (Or.inl rfl) (pe_ix ix_list (pe_fld (pv 7) (by rfl)) (pv 0) (fun _ _ => rfl)))
        (pss_cons (ps_set (i := 9) sc_stretches.nd rfl (Or.inl rfl) (pe_op op_fdiv (pe_un un_neg (pe_call G_value_at (hr.mono (by decide)) rfl T.m_value_at T.f_value_at.kp T.b_value_at .nil pass0 (pa_cons (pe_fld (pv 7) (by rfl)) (pa_cons (pe_fld (pv 7) (by rfl)) (pa_cons (pv 4) pa_nil))))) (pv 8)))
        (pss_cons (ps_set (i := 10) sc_stretches.nd rfl (Or.inl rfl) (pe_op op_fdiv (pe_un un_neg (pe_call G_value_at (hr.mono (by decide)) rfl T.m_value_at T.f_value_at.kp T.b_value_at .nil pass0 (pa_cons (pe_fld (pv 7) (by rfl)) (pa_cons (pe_fld (pv 7) (by rfl)) (pa_cons (pv 4) pa_nil))))) (pv 8)))
        (pss_one (ps_expr (pe_bm PySem.F.plainAttrs_list PySem.F.slot_list_append PySem.F.type_list_append mt_append (pv 5) (pa_cons (pe_tup (pa_cons (pe_callB (call_max2 rfl) rfl T.n_max WS.boot_max (pa_cons (pv 9) (pa_cons pe_int pa_nil))) (pa_cons (pe_op op_add (pe_op op_add (pv 10) pe_int) (pe_fld (pv 3) (by rfl))) pa_nil))) pa_nil)))))))) pss_nil)))
        (pss_one (ps_ret (pe_callB cr_sortedP rfl T.n_sorted WS.boot_sorted (pa_cons (pv 5) pa_nil))))))))), ?_⟩
    show (t_stretches_11 K a E 0 : TS) _ _ _
    have of := fit_ol hF
    have dt : depth t < 2 := by have := hF.2.2.2; (first | lia | omega)
    refine ⟨_, rfl, x, xs, t, rfl, hx, hC, hF, dt, fun v1 H1 s1 hO => ?_⟩
    obtain ⟨po, dxo, qo, vs, rfl, hpo, hqo, hB⟩ := hO
    refine ⟨_, rfl, q, _, rfl, .inl (s1.seq hq), fun O hO => ?_⟩
    first | refine ⟨_, rfl, _, rfl, ixL upd_same (ptl_ix v hu) ?_⟩ | refine ⟨_, rfl, _, rfl, O, _, _, _, rfl, rfl, upd_same, ptl_ix v hu, ?_⟩
    have e0 : (ptl v).set u (V.int 0) = ptl (put v u 0) := ptl_set v hu 0
    rw [upd_upd, e0]
    have s2 : Same H1 (upd H1 O (.lst (ptl (put v u 0)))) := same_new hO
    have hO2 : (upd H1 O (.lst (ptl (put v u 0)))) O = some (.lst (ptl (put v u 0))) := upd_same
    generalize upd H1 O (.lst (ptl (put v u 0))) = H2 at s2 hO2
    first | refine fldV rfl (s2 _ _ hpo) T.c_Outline T.a_Outline_period rfl ⟨by show 2 ≤ sizeLine; decide, fun tp0 htp0 => ⟨by show 1 ≤ sizeLine; decide, fun F hF' => ?_⟩⟩ | refine ⟨_, rfl, po, _, dxo, _, _, rfl, s2 _ _ hpo, T.c_Outline, T.a_Outline_period, rfl, by show 2 ≤ sizeLine; decide, fun tp0 htp0 => ⟨by show 1 ≤ sizeLine; decide, fun F hF' => ?_⟩⟩
    have s3 : Same H2 (upd H2 tp0 (.tup [.int 0, .int ((ol t).2 : Nat)])) := same_new htp0
    have ht3 : (upd H2 tp0 (.tup [.int 0, .int ((ol t).2 : Nat)])) tp0 = some (.tup [.int 0, .int ((ol t).2 : Nat)]) := upd_same
    generalize upd H2 tp0 (.tup [.int 0, .int ((ol t).2 : Nat)]) = H3 at s3 ht3 hF'
    have s4 : Same H3 (upd H3 F (.lst [.ref tp0])) := same_new hF'
    have hF4 : (upd H3 F (.lst [.ref tp0])) F = some (.lst [.ref tp0]) := upd_same
    generalize upd H3 F (.lst [.ref tp0]) = H4 at s4 hF4
    have s14 : Same H1 H4 := (s2.trans s3).trans s4
    have hO4 : H4 O = some (.lst (ptl (put v u 0))) := s4 _ _ (s3 _ _ hO2)
    have OF : O ≠ F := ne_of_none (s3 _ _ hO2) hF'
    have qF : qo ≠ F := ne_of_none (s3 _ _ (s2 _ _ hqo)) hF'
    have pF : po ≠ F := ne_of_none (s3 _ _ (s2 _ _ hpo)) hF'
    have HF : H F = none := ((s1.trans s2).trans s3).free hF'
    have hB4 : BandsAt a.C_Band H4 vs (ol t).1 := hB.same s14
    have hqo4 := s14 _ _ hqo
    have hpo4 := s14 _ _ hpo
    have vl : vs.length = (ol t).1.length := Paired.length hB
    have ol4 := of.len
    have noI : ∀ (ps : List Addr) (s : V3), ps.map V.ref ≠ v3l s := by
      intro ps s e
      cases ps with
      | nil => cases e
      | cons p ps => cases e
    refine ⟨_, rfl, po, _, dxo, _, _, rfl, hpo4, T.c_Outline, T.a_Outline_bands, rfl, qo, rfl, ⟨_, SqL.of hqo4⟩, for_list (K := K) (a := qo) (xs := vs) (fun i σ H' => SameX F H4 H' ∧ Same H H' ∧ (∃ z6 z7 z8 z9 z10 : Option V, σ = [some (.int (u : Nat)), some (.ref x), some (.ref q), some (.ref po), some (.ref O), some (.ref F), z6, z7, z8, z9, z10]) ∧
      ∃ ps : List Addr, H' F = some (.lst (ps.map V.ref)) ∧ PairsAt K H' ps ((0, ((ol t).2 : Int)) :: (((ol t).1.take i).filter fun b : Band => decide (b.s.get u ≠ 0)).map (cutB u (ol t).2 v)))
      ⟨fun _ _ e _ => e, s1.trans s14, ⟨_, _, _, _, _, rfl⟩, [tp0], hF4, .cons (SqT.of (s4 _ _ ht3)) .nil⟩ (fun i σ H' _ ⟨e, _⟩ => SqL.of (e _ _ hqo4 qF)) ?_ ?_⟩
    · rintro i y σ H' hy ⟨sx, sm, ⟨z6, z7, z8, z9, z10, rfl⟩, ps, hps, hpr⟩
      obtain ⟨b, hbi, hbx⟩ := paired_get hB4 hy
      have hbm := List.mem_of_getElem? hbi
      have hbx' : BandAt a.C_Band H' y b := hbx.sameX hF4 (noI [tp0]) sx
      obtain ⟨pb, dxb, qb, rfl, hpb, hqb⟩ := id hbx'
      first | refine fldV rfl hpb T.c_Band T.a_Band_slopes rfl ⟨_, rfl, ixL (SqL.of hqb) (v3_ix b.s hu) ⟨rfl, _, rfl, ?_⟩⟩ | refine ⟨_, rfl, pb, _, dxb, _, _, rfl, hpb, T.c_Band, T.a_Band_slopes, rfl, _, rfl, qb, _, _, _, rfl, rfl, SqL.of hqb, v3_ix b.s hu, rfl, _, rfl, ?_⟩
      by_cases hz : b.s.get u = 0
      · refine ifNeF hz ⟨sx, sm, ⟨_, _, _, _, _, rfl⟩, ps, hps, ?_⟩
        rw [take_snoc hbi, filter_snoc, if_neg (by simpa using hz), List.append_nil]
        exact hpr
      · refine ifNeT hz ?_
        refine ⟨_, rfl, _, rfl, _, u, b, rfl, hu, hbx', fun v5 H5 s5 hb5 => ?_⟩
        have rp := rising_pos hz
        have rB := (of.band b hbm).rising u
        have rg := V3.le_get rB.s u
        have rle : (rising u b).s.le (2 ^ 30) := le_mono rB.s (by decide)
        obtain ⟨pr, dxr, qr, rfl, hpr5, hqr5⟩ := hb5
        have hO5 : H5 O = some (.lst (ptl (put v u 0))) := s5 _ _ (sx _ _ hO4 OF)
        first | refine fldV rfl hpr5 T.c_Band T.a_Band_slopes rfl ⟨_, rfl, ixL (SqL.of hqr5) (v3_ix (rising u b).s hu) ?_⟩ | refine ⟨_, rfl, pr, _, dxr, _, _, rfl, hpr5, T.c_Band, T.a_Band_slopes, rfl, _, rfl, qr, _, _, _, rfl, rfl, SqL.of hqr5, v3_ix (rising u b).s hu, ?_⟩
        first | refine fldV rfl hpr5 T.c_Band T.a_Band_slopes rfl (fldV rfl hpr5 T.c_Band T.a_Band_high rfl ⟨_, rfl, qr, O, (rising u b).s, (rising u b).hi, _, _, _, rfl, SqL.of hqr5, SqL.of hO5, rle, _, rfl, _, rfl, i2 ⟨⟨rp, by (first | lia | omega)⟩, ?_⟩⟩) | refine ⟨_, rfl, pr, _, dxr, _, _, rfl, hpr5, T.c_Band, T.a_Band_slopes, rfl, _, rfl, pr, _, dxr, _, _, rfl, hpr5, T.c_Band, T.a_Band_high, rfl, _, rfl, qr, O, (rising u b).s, (rising u b).hi, _, _, _, rfl, SqL.of hqr5, SqL.of hO5, rle, _, rfl, _, rfl, _, _, rfl, rfl, ⟨rp, by (first | lia | omega)⟩, ?_⟩
        first | refine fldV rfl hpr5 T.c_Band T.a_Band_slopes rfl (fldV rfl hpr5 T.c_Band T.a_Band_low rfl ⟨_, rfl, qr, O, (rising u b).s, (rising u b).lo, _, _, _, rfl, SqL.of hqr5, SqL.of hO5, rle, _, rfl, _, rfl, i2 ⟨⟨rp, by (first | lia | omega)⟩, ?_⟩⟩) | refine ⟨_, rfl, pr, _, dxr, _, _, rfl, hpr5, T.c_Band, T.a_Band_slopes, rfl, _, rfl, pr, _, dxr, _, _, rfl, hpr5, T.c_Band, T.a_Band_low, rfl, _, rfl, qr, O, (rising u b).s, (rising u b).lo, _, _, _, rfl, SqL.of hqr5, SqL.of hO5, rle, _, rfl, _, rfl, _, _, rfl, rfl, ⟨rp, by (first | lia | omega)⟩, ?_⟩
        rw [vdot_dot]
        have hps5 := s5 _ _ hps
        have hpo5 := s5 _ _ (sx _ _ hpo4 pF)
        first | refine ⟨_, rfl, .inl ⟨rfl, _, SqL.of hps5⟩, _, rfl, _, _, rfl, _, rfl, i2 (fldV rfl hpo5 T.c_Outline T.a_Outline_period rfl (i2 ⟨by show 2 ≤ sizeLine; decide, fun tp htp => ?_⟩))⟩ | refine ⟨_, rfl, .inl ⟨rfl, _, SqL.of hps5⟩, _, rfl, _, _, rfl, _, rfl, _, _, rfl, rfl, _, rfl, po, _, dxo, _, _, rfl, hpo5, T.c_Outline, T.a_Outline_period, rfl, _, _, rfl, rfl, by show 2 ≤ sizeLine; decide, fun tp htp => ?_⟩
        have mx : (if (0 : Int) > -((rising u b).s.dot (put v u 0) + (rising u b).hi) / (rising u b).s.get u then (0 : Int) else -((rising u b).s.dot (put v u 0) + (rising u b).hi) / (rising u b).s.get u) = max (-((rising u b).s.dot (put v u 0) + (rising u b).hi) / (rising u b).s.get u) 0 := by
          split <;> (first | lia | omega)
        rw [mx]
        have cut : cutB u (ol t).2 v b = (max (-((rising u b).s.dot (put v u 0) + (rising u b).hi) / (rising u b).s.get u) 0, -((rising u b).s.dot (put v u 0) + (rising u b).lo) / (rising u b).s.get u + 1 + ((ol t).2 : Int)) := rfl
        have pl : ps.length ≤ 5000 := by
          have e1 := Paired.length hpr
          rw [List.length_cons, List.length_map] at e1
          have e2 := List.length_filter_le (fun b : Band => decide (b.s.get u ≠ 0)) ((ol t).1.take i)
          rw [List.length_take] at e2
          (first | lia | omega)
        have fin : ∀ (c1 c2 : Int) (H6 : Hp), cutB u (ol t).2 v b = (c1, c2) → Same H5 H6 → H6 tp = some (.tup [.int c1, .int c2]) → SameX F H4 (upd H6 F (.lst (ps.map V.ref ++ [.ref tp]))) ∧ Same H (upd H6 F (.lst (ps.map V.ref ++ [.ref tp]))) ∧
            ∃ ps' : List Addr, (upd H6 F (.lst (ps.map V.ref ++ [.ref tp]))) F = some (.lst (ps'.map V.ref)) ∧ PairsAt K (upd H6 F (.lst (ps.map V.ref ++ [.ref tp]))) ps' ((0, ((ol t).2 : Int)) :: (((ol t).1.take (i + 1)).filter fun b : Band => decide (b.s.get u ≠ 0)).map (cutB u (ol t).2 v)) := by
          intro c1 c2 H6 cut s6 ht6
          have hps6 := s6 _ _ hps5
          have sx7 : SameX F H6 (upd H6 F (.lst (ps.map V.ref ++ [.ref tp]))) := SameX.upd (fun _ _ e _ => e) _
          refine ⟨(sx.trans (WS.Same.x (s5.trans s6) F)).trans sx7, fun c oc e => ?_, ps ++ [tp], ?_, ?_⟩
          · rw [upd_ne (ne_of_none e HF)]
            exact s6 _ _ (s5 _ _ (sm _ _ e))
          · rw [upd_same, List.map_append]
            rfl
          · rw [take_snoc hbi, filter_snoc, if_pos (by simpa using hz), List.map_append, ← List.cons_append]
            refine Paired.app (Paired.mapP hpr fun _ _ r => SqT.sameX hps6 sx7 (SqT.same (s5.trans s6) r)) (.cons ?_ .nil)
            rw [cut]
            exact SqT.sameX hps6 sx7 (SqT.of ht6)
        first | refine apd (same_new htp _ _ hps5) (line_big (by rw [List.length_map]; (first | lia | omega))) ?_ | refine ⟨F, ps.map V.ref, _, rfl, rfl, same_new htp _ _ hps5, line_big (by rw [List.length_map]; (first | lia | omega)), ?_⟩
        obtain ⟨f1, f2, f3⟩ := fin _ _ _ cut (same_new htp) upd_same
        exact ⟨f1, f2, ⟨_, _, _, _, _, rfl⟩, f3⟩
    · rintro σ H' ⟨sx, sm, ⟨z6, z7, z8, z9, z10, rfl⟩, ps, hps, hpr⟩
      rw [vl, List.take_length] at hpr
      refine ⟨_, rfl, F, ps, _, rfl, SqL.of hps, hpr, fun ps' prs' l hp' hperm hsort hl => ?_⟩
      have s9 : Same H' (upd H' l (.lst (ps'.map V.ref))) := same_new hl
      exact k l ps' prs' _ (sm.trans s9) (sm.free hl) upd_same (Paired.mapP hp' fun _ _ r => SqT.same s9 r) hperm hsort
end
end WS
end
section
set_option Elab.async false
set_option linter.all false
set_option maxRecDepth 100000
set_option maxHeartbeats 1000000
namespace WS
open PySem PySem.Spec PyProof.Rows L2
open Sy15 (T Val put)
open Sy15Neutral (brackets depth small)
theorem pw_le {prs : List (Int × Int)} (h : prs.Pairwise fun x y => x.1 ≤ y.1) {i j : Nat} {c d : Int × Int} (hi : prs[i]? = some c) (hj : prs[j]? = some d) (hij : i ≤ j) : c.1 ≤ d.1 := by
  obtain ⟨li, ei⟩ := List.getElem?_eq_some_iff.mp hi
  obtain ⟨lj, ej⟩ := List.getElem?_eq_some_iff.mp hj
  rcases Nat.lt_or_eq_of_le hij with z | z
  · have := List.pairwise_iff_getElem.mp h i j li lj z
    rw [ei, ej] at this
    exact this
  · subst z
    rw [hi] at hj
    cases hj
    exact Int.le_refl _
structure Tried (W : Nat → Prop) (prs : List (Int × Int)) (i : Nat) (t : Int) : Prop where
  no : ∀ j c, j < i → prs[j]? = some c → ∀ m : Nat, c.1 ≤ (m : Int) → (m : Int) < c.2 → ¬ W m
  at_ : t = 0 ∨ ∃ j c, j < i ∧ prs[j]? = some c ∧ t = c.2
  nn : 0 ≤ t
theorem Tried.below {W : Nat → Prop} {prs : List (Int × Int)} {i : Nat} {t : Int} (h : Tried W prs i t) (hs : prs.Pairwise fun x y => x.1 ≤ y.1) {c : Int × Int} (hc : prs[i]? = some c) (m : Nat) (h1 : c.1 ≤ (m : Int)) (h2 : (m : Int) < max c.1 t) : ¬ W m := by
  have h3 : (m : Int) < t := by (first | lia | omega)
  rcases h.at_ with z | ⟨j, d, hj, hd, rfl⟩
  · (first | lia | omega)
  · have := pw_le hs hd hc (Nat.le_of_lt hj)
    exact h.no j d hj hd m (by (first | lia | omega)) h3
section
variable {P : Program} {w : World} {K : PySem.W.Frag} {mg : Str → Option Value} {base : Heap} {a : Adr}
def sp_is_so (K : PySem.W.Frag) (d : Nat) : Sp := fun vs H Q _ => ∃ (x q : Addr) (xs : List V) (t : U) (v : Val), vs = [.ref x, .ref q] ∧ SqL K H x xs ∧ CodeAt H D0 xs (codeU t) ∧ Fine t ∧ depth t < d ∧ SqL K H q (ptl v) ∧
  ∀ H', Same H H' → Q (.bl (tB (SemU t v))) H'
def sp_least_value (K : PySem.W.Frag) (d : Nat) : Sp := fun vs H Q _ => ∃ (u : Nat) (x q : Addr) (wd : Bool) (xs : List V) (t : U) (v : Val), vs = [.int (u : Nat), .ref x, .ref q, .bl wd] ∧ u < 3 ∧ SqL K H x xs ∧ CodeAt H D0 xs (codeU t) ∧ Fit t ∧ depth t < d ∧ SqL K H q (ptl v) ∧
  (∀ (n : Nat) H', Same H H' → tB (SemU t (put v u n)) = wd → (∀ m, m < n → ¬ tB (SemU t (put v u m)) = wd) → Q (.int (n : Nat)) H') ∧ ((∀ n, ¬ tB (SemU t (put v u n)) = wd) → ∀ H', Same H H' → Q .non H')
@[reducible] def t_least_value_0 (K : PySem.W.Frag) (a : Adr) (E : XK) (d : Nat) : TS := (tAsg (tCB rMax (tCons (tVar 5) (tCons (tVar 7) tNil))) (gName 5))
@[reducible] def t_least_value_1 (K : PySem.W.Frag) (a : Adr) (E : XK) (d : Nat) : TS := (tIfS (tTest (tOp rEq (tCall (sp_is_so K d) [] E0 (tCons (tVar 1) (tCons (tVar 4) tNil))) (tVar 3))) (tRet (tVar 8)) tNext)
@[reducible] def t_least_value_2 (K : PySem.W.Frag) (a : Adr) (E : XK) (d : Nat) : TS := tSeq (tAsg (tVar 8) (gSub (tVar 4) (tVar 0) rSetL)) (t_least_value_1 K a E d)
@[reducible] def t_least_value_3 (K : PySem.W.Frag) (a : Adr) (E : XK) (d : Nat) : TS := tSeq (tFor (iRngW (tCons (tCB rMax (tCons (tVar 6) (tCons (tVar 5) tNil))) (tCons (tVar 7) tNil))) (gName 8) (t_least_value_2 K a E d)) (t_least_value_0 K a E d)
@[reducible] def t_least_value_4 (K : PySem.W.Frag) (a : Adr) (E : XK) (d : Nat) : TS := tSeq (tFor (iList K (tCall (sp_stretches K) [] E0 (tCons (tVar 0) (tCons (tVar 1) (tCons (tVar 2) tNil))))) (gTup K 2 (gCons (gName 6) (gCons (gName 7) gNil))) (t_least_value_3 K a E d)) (tRet (tC .non))
@[reducible] def t_least_value_5 (K : PySem.W.Frag) (a : Adr) (E : XK) (d : Nat) : TS := tSeq (tAsg (tC (.int 0)) (gName 5)) (t_least_value_4 K a E d)
@[reducible] def t_least_value_6 (K : PySem.W.Frag) (a : Adr) (E : XK) (d : Nat) : TS := tSeq (tAsg (tCB (rListOf K) (tCons (tVar 2) tNil)) (gName 4)) (t_least_value_5 K a E d)
theorem ok_least_value (T : Txt K mg a) {d : Nat} (G_is_so : FnOk P w K mg base CX0 (10 + 2 * d) a.f_is_so a.d_is_so ["steps", "point"] (sp_is_so K d)) :
    FnOk P w K mg base CX0 (11 + 2 * d) a.f_least_value a.d_least_value ["unknown", "steps", "point", "wanted"] (sp_least_value K d) := by
  have G_stretches : FnOk P w K mg base CX0 9 a.f_stretches a.d_stretches ["unknown", "steps", "point"] (sp_stretches K) := ok_stretches T
  refine FnOk.mono (T.f_least_value.ok (k := 10 + 2 * d) sc_least_value (fun vs H Q E h => ?_) (fun cdv A outer s H vs Q E hr h => ?_)) (by (first | lia | omega))
  · obtain ⟨u, x, q, wd, xs, t, v, rfl, _⟩ := h
    rfl
  · obtain ⟨u, x, q, wd, xs, t, v, rfl, hu, hx, hC, hF, hd, hq, k1, k2⟩ := h
    refine ⟨_, (pss_cons (ps_set (i := 4) sc_least_value.nd rfl (Or.inl rfl) (pe_callTy call_list_of rfl T.n_list WS.boot_list (pa_cons (pv 2) pa_nil)))
        (pss_cons (ps_set (i := 5) sc_least_value.nd rfl (Or.inl rfl) pe_int)
        (pss_cons (ps_for PassesOwn.never rfl (pi_list (pe_call G_stretches (hr.mono (by (first | lia | omega))) rfl T.m_stretches T.f_stretches.kp T.b_stretches .nil pass0 (pa_cons (pv 0) (pa_cons (pv 1) (pa_cons (pv 2) pa_nil))))) (pg_tup rfl (pgs_cons (pg_name (i := 6) sc_least_value.nd rfl (Or.inl rfl)) (pgs_cons (pg_name (i := 7) sc_least_value.nd rfl (Or.inl rfl)) pgs_nil))) (pss_cons (ps_for PassesOwn.never rfl (pi_rangeW rfl T.n_range (pa_cons (pe_callB (call_max2 rfl) rfl T.n_max WS.boot_max (pa_cons (pv 6) (pa_cons (pv 5) pa_nil))) (pa_cons (pv 7) pa_nil))) (pg_name (i := 8) sc_least_value.nd rfl (Or.inl rfl)) (pss_cons (ps_asg (pv 8) (pg_sub (pv 4) (pv 0) set_list))
        (pss_one (ps_if (pt_cmpR op_eq (pe_call G_is_so (hr.mono (by (first | lia | omega))) rfl T.m_is_so T.f_is_so.kp T.b_is_so .nil pass0 (pa_cons (pv 1) (pa_cons (pv 4) pa_nil))) (pv 3) (nomark _)) (pss_one (ps_ret (pv 8))) pss_nil))))
        (pss_one (ps_set (i := 5) sc_least_value.nd rfl (Or.inl rfl) (pe_callB (call_max2 rfl) rfl T.n_max WS.boot_max (pa_cons (pv 5) (pa_cons (pv 7) pa_nil)))))))
        (pss_one (ps_ret pe_non))))), ?_⟩
    show (t_least_value_6 K a E d : TS) _ _ _
    have of := fit_ol hF
    have dt : depth t = 0 ∨ depth t = 1 := by have := hF.2.2.2; (first | lia | omega)
    generalize hWW : (fun n : Nat => tB (SemU t (put v u n)) = wd) = W
    have hW : ∀ n, W n ↔ tB (SemU t (put v u n)) = wd := fun n => by rw [← hWW]
    have agree : ∀ m n, Agree (ol t) (put v u m) (put v u n) → (W m ↔ W n) := fun m n hag => by
      rw [hW, hW]
      have e := (olU_sound hF.1).2 _ _ hag
      rw [tB_eq (b := tB (SemU t (put v u m))) (p := SemU t (put v u n)) (by rw [tB_iff]; exact e)]
    refine ⟨_, rfl, q, _, rfl, .inl hq, fun R hR => ?_⟩
    have s1 : Same H (upd H R (.lst (ptl v))) := same_new hR
    have hR1 : (upd H R (.lst (ptl v))) R = some (.lst (ptl v)) := upd_same
    generalize upd H R (.lst (ptl v)) = H1 at s1 hR1
    refine ⟨_, rfl, _, rfl, _, rfl, u, x, q, xs, t, v, rfl, hu, s1.seq hx, hC.same' s1, hF, s1.seq hq, fun l ps prs H2 s2 hl hl2 hpr hperm hsort => ?_⟩
    have RL : R ≠ l := ne_of_none hR1 hl
    refine ⟨l, rfl, ⟨_, SqL.of hl2⟩, for_list (K := K) (a := l) (xs := ps.map V.ref) (fun i σ H' => Same H H' ∧ H' l = some (.lst (ps.map V.ref)) ∧ PairsAt K H' ps prs ∧ (∃ v' : Val, H' R = some (.lst (ptl v')) ∧ ∀ n, put v' u n = put v u n) ∧
      ∃ (τ : Int) (z6 z7 z8 : Option V), σ = [some (.int (u : Nat)), some (.ref x), some (.ref q), some (.bl wd), some (.ref R), some (.int τ), z6, z7, z8] ∧ Tried W prs i τ)
      ⟨s1.trans s2, hl2, hpr, ⟨v, s2 _ _ hR1, fun _ => rfl⟩, 0, none, none, none, rfl, ⟨fun j c h => absurd h (Nat.not_lt_zero _), .inl rfl, Int.le_refl _⟩⟩ (fun i σ H' _ ⟨_, e, _⟩ => SqL.of e) ?_ ?_⟩
    · rintro i y σ H' hy ⟨sm, hlH, hprH, ⟨v', hRH, hpv⟩, τ, z6, z7, z8, rfl, tr⟩
      obtain ⟨p, hpi, rfl⟩ : ∃ p, ps[i]? = some p ∧ y = V.ref p := by
        rw [List.getElem?_map] at hy
        cases e : ps[i]? with
        | none => rw [e] at hy; cases hy
        | some p => rw [e] at hy; exact ⟨p, rfl, (Option.some.inj hy).symm⟩
      obtain ⟨c, hci, htup⟩ := paired_get hprH hpi
      have hcm : c ∈ cuts u (ol t) v := hperm.mem_iff.mp (List.mem_of_getElem? hci)
      have tnn := tr.nn
      refine ⟨p, _, rfl, htup, rfl, _, _, rfl, _, _, rfl, rfl, ?_⟩
      have mx : (if τ > c.1 then τ else c.1) = max c.1 τ := by split <;> (first | lia | omega)
      refine ⟨_, rfl, _, rfl, _, _, rfl, _, rfl, _, _, rfl, ?_⟩
      rw [mx]
      have hW0 : 0 ≤ max c.1 τ := by (first | lia | omega)
      refine for_range (lo := max c.1 τ) (n := (c.2 - max c.1 τ).toNat) (fun m σ H' => Same H H' ∧ H' l = some (.lst (ps.map V.ref)) ∧ PairsAt K H' ps prs ∧ (∃ v' : Val, H' R = some (.lst (ptl v')) ∧ ∀ n, put v' u n = put v u n) ∧
        ∃ z8 : Option V, σ = [some (.int (u : Nat)), some (.ref x), some (.ref q), some (.bl wd), some (.ref R), some (.int τ), some (.int c.1), some (.int c.2), z8] ∧ ∀ n : Nat, c.1 ≤ (n : Int) → (n : Int) < max c.1 τ + m → ¬ W n)
        ⟨sm, hlH, hprH, ⟨v', hRH, hpv⟩, z8, rfl, fun n h1 h2 => tr.below hsort hci n h1 (by (first | lia | omega))⟩ ?_ ?_
      · rintro m σ H3 hm ⟨sm3, hl3, hpr3, ⟨v3, hR3, hpv3⟩, z, rfl, tested⟩
        obtain ⟨n, hn⟩ : ∃ n : Nat, max c.1 τ + (m : Int) = (n : Int) := ⟨(max c.1 τ + (m : Int)).toNat, by (first | lia | omega)⟩
        rw [hn] at tested ⊢
        have nlt : (n : Int) < c.2 := by (first | lia | omega)
        first | refine ⟨_, rfl, _, rfl, _, rfl, ixL hR3 (ptl_ix v3 hu) ?_⟩ | refine ⟨_, rfl, _, rfl, _, rfl, R, _, _, _, rfl, rfl, hR3, ptl_ix v3 hu, ?_⟩
        rw [ptl_set v3 hu n, hpv3 n]
        have sx : SameX R H3 (upd H3 R (.lst (ptl (put v u n)))) := SameX.upd (fun _ _ e _ => e) _
        have sm4 : Same H (upd H3 R (.lst (ptl (put v u n)))) := fun b o e => sx b o (sm3 b o e) (ne_of_none e hR)
        have hl4 : (upd H3 R (.lst (ptl (put v u n)))) l = some (.lst (ps.map V.ref)) := sx _ _ hl3 (Ne.symm RL)
        have hpr4 : PairsAt K (upd H3 R (.lst (ptl (put v u n)))) ps prs := Paired.mapP hpr3 fun _ _ r => SqT.sameX hR3 sx r
        have hR4 : (upd H3 R (.lst (ptl (put v u n)))) R = some (.lst (ptl (put v u n))) := upd_same
        generalize upd H3 R (.lst (ptl (put v u n))) = H4 at sm4 hl4 hpr4 hR4
        refine ⟨_, rfl, _, rfl, x, R, xs, t, put v u n, rfl, sm4.seq hx, hC.same' sm4, hF.fine, hd, SqL.of hR4, fun H5 s5 => ?_⟩
        refine ⟨_, rfl, rfl, _, rfl, ?_⟩
        by_cases hw' : tB (SemU t (put v u n)) = wd
        · refine ifT (congrArg V.bl hw') ⟨_, rfl, ?_⟩
          refine k1 n H5 (sm4.trans s5) hw' fun m' hm' hw2 => ?_
          obtain ⟨m0, w0, l0⟩ := least_of (P := W) ⟨m', (hW m').mpr hw2⟩
          have m0le : m0 ≤ m' := by
            rcases Nat.lt_or_ge m' m0 with z | z
            · exact absurd ((hW m').mpr hw2) (l0 m' z)
            · exact z
          obtain ⟨c', hc', b1, b2⟩ := in_cuts hu of.pos agree w0 l0
          obtain ⟨j, hj⟩ := List.getElem?_of_mem (hperm.mem_iff.mpr hc')
          rcases Nat.lt_or_ge j i with z | z
          · exact tr.no j c' z hj m0 b1 b2 w0
          · have := pw_le hsort hci hj z
            exact tested m0 (by (first | lia | omega)) (by (first | lia | omega)) w0
        · refine ifF (fun e => hw' (V.bl.inj e)) ⟨sm4.trans s5, s5 _ _ hl4, Paired.mapP hpr4 fun _ _ r => SqT.same s5 r, ⟨put v u n, s5 _ _ hR4, fun n' => put_put v u n n'⟩, some (.int (n : Nat)), rfl, fun n' h1 h2 => ?_⟩
          by_cases e : n' = n
          · subst e
            rw [hW]
            exact hw'
          · exact tested n' h1 (by (first | lia | omega))
      · rintro σ H3 ⟨sm3, hl3, hpr3, ⟨v3, hR3, hpv3⟩, z, rfl, tested⟩
        have mx2 : (if c.2 > τ then c.2 else τ) = max τ c.2 := by split <;> (first | lia | omega)
        refine ⟨_, rfl, _, rfl, _, _, rfl, ?_⟩
        rw [mx2]
        refine ⟨sm3, hl3, hpr3, ⟨v3, hR3, hpv3⟩, max τ c.2, _, _, _, rfl, ⟨fun j d hj hd m h1 h2 => ?_, ?_, ?_⟩⟩
        · rcases Nat.lt_or_ge j i with z' | z'
          · exact tr.no j d z' hd m h1 h2
          · have e : j = i := by (first | lia | omega)
            subst e
            rw [hci] at hd
            cases hd
            exact tested m h1 (by (first | lia | omega))
        · by_cases e : τ < c.2
          · right
            exact ⟨i, c, Nat.lt_succ_self _, hci, by (first | lia | omega)⟩
          · have e' : max τ c.2 = τ := by (first | lia | omega)
            rw [e']
            rcases tr.at_ with z' | ⟨j, d, hj, hd, z'⟩
            · exact .inl z'
            · exact .inr ⟨j, d, Nat.lt_succ_of_lt hj, hd, z'⟩
        · (first | lia | omega)
    · rintro σ H' ⟨sm, hlH, hprH, _, τ, z6, z7, z8, rfl, tr⟩
      refine k2 (fun n hn => ?_) H' sm
      obtain ⟨m0, w0, l0⟩ := least_of (P := W) ⟨n, (hW n).mpr hn⟩
      obtain ⟨c', hc', b1, b2⟩ := in_cuts hu of.pos agree w0 l0
      obtain ⟨j, hj⟩ := List.getElem?_of_mem (hperm.mem_iff.mpr hc')
      have jl : j < (ps.map V.ref).length := by
        rw [List.length_map, Paired.length hpr]
        exact (List.getElem?_eq_some_iff.mp hj).1
      exact tr.no j c' jl hj m0 b1 b2 w0
end
end WS
end
section
set_option Elab.async false
set_option linter.all false
set_option maxRecDepth 100000
set_option maxHeartbeats 1000000
namespace WS
open PySem PySem.Spec PyProof.Rows L2
open Sy15 (T Val put)
open Sy15Neutral (brackets depth small)
def wS : Step → Nat
  | .nt => 0
  | .jn _ => 0
  | .bd _ _ t => (brackets t).length
  | _ => 1
theorem wS_code : ∀ t : T, ((code t).map wS).sum = (brackets t).length
  | .less _ _ => rfl
  | .same _ _ => rfl
  | .rest _ _ _ => rfl
  | .not t => by
    have := wS_code t
    simp only [code, List.map_append, List.sum_append, this]
    rfl
  | .and s t => by
    have h1 := wS_code s
    have h2 := wS_code t
    simp only [code, List.map_append, List.sum_append, h1, h2, brackets, List.length_append]
    rfl
  | .or s t => by
    have h1 := wS_code s
    have h2 := wS_code t
    simp only [code, List.map_append, List.sum_append, h1, h2, brackets, List.length_append]
    rfl
  | .then_ s t => by
    have h1 := wS_code s
    have h2 := wS_code t
    simp only [code, List.map_append, List.sum_append, h1, h2, brackets, List.length_append]
    rfl
  | .all u t => by simp [code, wS, brackets, U.dn]
  | .some_ u t => by simp [code, wS, brackets, U.dn]
theorem wS_codeU : ∀ t : U, ((codeU t).map wS).sum = (brackets t).length
  | .of t => wS_code t
  | .diff s t => by
    have h1 := wS_code s
    have h2 := wS_code t
    simp only [codeU, List.map_append, List.sum_append, h1, h2, U.dn, brackets, List.length_append]
    rfl
  | .ex u t => by simp [codeU, wS, brackets, U.dn]
theorem brk_pos : ∀ t : T, 0 < (brackets t).length
  | .less _ _ => by simp [brackets]
  | .same _ _ => by simp [brackets]
  | .rest _ _ _ => by simp [brackets]
  | .not t => brk_pos t
  | .and s t => by have := brk_pos s; simp only [brackets, List.length_append]; (first | lia | omega)
  | .or s t => by have := brk_pos s; simp only [brackets, List.length_append]; (first | lia | omega)
  | .then_ s t => by have := brk_pos s; simp only [brackets, List.length_append]; (first | lia | omega)
  | .all u t => brk_pos t
  | .some_ u t => brk_pos t
theorem snoc_of {α : Type} : ∀ {l r : List α} {x : α}, l.reverse = x :: r → l = r.reverse ++ [x] := by
  intro l r x h
  have := congrArg List.reverse h
  simpa using this
theorem map_last {α β : Type} (f : α → β) (r : List α) (x : α) : ((r ++ [x]).map f)[((r ++ [x]).map f).length - 1]? = some (f x) := by simp
theorem map_drop {α β : Type} (f : α → β) (r : List α) (x : α) : ((r ++ [x]).map f).dropLast = r.map f := by simp
theorem drop_get {α : Type} {l : List α} {i : Nat} {x : α} (h : l[i]? = some x) : l.drop i = x :: l.drop (i + 1) := by
  obtain ⟨hi, e⟩ := List.getElem?_eq_some_iff.mp h
  rw [List.drop_eq_getElem_cons hi, e]
section
variable {P : Program} {w : World} {K : PySem.W.Frag} {mg : Str → Option Value} {base : Heap} {a : Adr}
@[reducible] def t_is_so_0 (K : PySem.W.Frag) (a : Adr) (E : XK) (d : Nat) : TS := (tDrop (tBM K "list" rAppend (tVar 2) (tCons (tNotV (tBM0 K "list" rPop (tVar 2))) tNil)))
@[reducible] def t_is_so_1 (K : PySem.W.Frag) (a : Adr) (E : XK) (d : Nat) : TS := (tDrop (tBM K "list" rAppend (tVar 2) (tCons (tCall sp_is_join_so [] E0 (tCons (tVar 4) (tCons (tBM0 K "list" rPop (tVar 2)) (tCons (tVar 5) tNil)))) tNil)))
@[reducible] def t_is_so_2 (K : PySem.W.Frag) (a : Adr) (E : XK) (d : Nat) : TS := tSeq (tAsg (tBM0 K "list" rPop (tVar 2)) (gName 5)) (t_is_so_1 K a E d)
@[reducible] def t_is_so_3 (K : PySem.W.Frag) (a : Adr) (E : XK) (d : Nat) : TS := (tDrop (tBM K "list" rAppend (tVar 2) (tCons (tIsN (tCall (sp_least_value K d) [] E0 (tCons (tOp (rIxT K) (tVar 3) (tC (.int 1))) (tCons (tOp (rIxT K) (tVar 3) (tC (.int 2))) (tCons (tVar 1) (tCons (tC (.bl false)) tNil)))))) tNil)))
@[reducible] def t_is_so_4 (K : PySem.W.Frag) (a : Adr) (E : XK) (d : Nat) : TS := (tDrop (tBM K "list" rAppend (tVar 2) (tCons (tNotN (tCall (sp_least_value K d) [] E0 (tCons (tOp (rIxT K) (tVar 3) (tC (.int 1))) (tCons (tOp (rIxT K) (tVar 3) (tC (.int 2))) (tCons (tVar 1) (tCons (tC (.bl true)) tNil)))))) tNil)))
@[reducible] def t_is_so_5 (K : PySem.W.Frag) (a : Adr) (E : XK) (d : Nat) : TS := (tDrop (tBM K "list" rAppend (tVar 2) (tCons (tCall (sp_is_claim_so K) [] E0 (tCons (tVar 3) (tCons (tVar 1) tNil))) tNil)))
@[reducible] def t_is_so_6 (K : PySem.W.Frag) (a : Adr) (E : XK) (d : Nat) : TS := (tIfS (tTest (tOp rEq (tVar 4) (tC (.int (69))))) (t_is_so_4 K a E d) (t_is_so_5 K a E d))
@[reducible] def t_is_so_7 (K : PySem.W.Frag) (a : Adr) (E : XK) (d : Nat) : TS := (tIfS (tTest (tOp rEq (tVar 4) (tC (.int (65))))) (t_is_so_3 K a E d) (t_is_so_6 K a E d))
@[reducible] def t_is_so_8 (K : PySem.W.Frag) (a : Adr) (E : XK) (d : Nat) : TS := (tIfS (tTest (tOp (rIn K false) (tVar 4) (tTup (tCons (tC (.int (38))) (tCons (tC (.int (124))) (tCons (tC (.int (62))) (tCons (tC (.int (94))) tNil))))))) (t_is_so_2 K a E d) (t_is_so_7 K a E d))
@[reducible] def t_is_so_9 (K : PySem.W.Frag) (a : Adr) (E : XK) (d : Nat) : TS := (tIfS (tTest (tOp rEq (tVar 4) (tC (.int (33))))) (t_is_so_0 K a E d) (t_is_so_8 K a E d))
@[reducible] def t_is_so_10 (K : PySem.W.Frag) (a : Adr) (E : XK) (d : Nat) : TS := tSeq (tAsg (tOp (rIxT K) (tVar 3) (tC (.int 0))) (gName 4)) (t_is_so_9 K a E d)
@[reducible] def t_is_so_11 (K : PySem.W.Frag) (a : Adr) (E : XK) (d : Nat) : TS := tSeq (tFor (iList K (tVar 0)) (gName 3) (t_is_so_10 K a E d)) (tRet (tBM0 K "list" rPop (tVar 2)))
@[reducible] def t_is_so_12 (K : PySem.W.Frag) (a : Adr) (E : XK) (d : Nat) : TS := tSeq (tAsg (tLst tNil) (gName 2)) (t_is_so_11 K a E d)
theorem ok_is_so (T : Txt K mg a) : ∀ d : Nat, FnOk P w K mg base CX0 (10 + 2 * d) a.f_is_so a.d_is_so ["steps", "point"] (sp_is_so K d)
  | 0 => fn_never fun vs H Q E q => by
    obtain ⟨_, _, _, _, _, _, _, _, _, z, _⟩ := q
    exact absurd z (Nat.not_lt_zero _)
  | d + 1 => by
    have G_least_value : FnOk P w K mg base CX0 (11 + 2 * d) a.f_least_value a.d_least_value ["unknown", "steps", "point", "wanted"] (sp_least_value K d) := ok_least_value T (ok_is_so T d)
    have G_is_join_so : FnOk P w K mg base CX0 1 a.f_is_join_so a.d_is_join_so ["sign", "first", "second"] sp_is_join_so := ok_is_join_so T
    have G_is_claim_so : FnOk P w K mg base CX0 2 a.f_is_claim_so a.d_is_claim_so ["step", "point"] (sp_is_claim_so K) := ok_is_claim_so T
    refine FnOk.mono (T.f_is_so.ok (k := 11 + 2 * d) sc_is_so (fun vs H Q E h => ?_) (fun cdv A outer s H vs Q E hr h => ?_)) (by (first | lia | omega))
    · obtain ⟨x, q, xs, t, v, rfl, _⟩ := h
      rfl
    · obtain ⟨x, q, xs, t, v, rfl, hx, hC, hF, hd, hq, k⟩ := h
      refine ⟨_, (pss_cons (ps_set (i := 2) sc_is_so.nd rfl (Or.inl rfl) (pe_lst pa_nil))
        (pss_cons (ps_for PassesOwn.never rfl (pi_list (pv 0)) (pg_name (i := 3) sc_is_so.nd rfl (Or.inl rfl)) (pss_cons (ps_set (i := 4) sc_is_so.nd rfl (Or.inl rfl) (pe_ix ix_tup (pv 3) pe_int (fun _ _ => rfl)))
        (pss_one (ps_if (pt_cmpR op_eq (pv 4) (pe_gint rfl T.g_NOT) (nomark _)) (pss_one (ps_expr (pe_bm PySem.F.plainAttrs_list PySem.F.slot_list_append PySem.F.type_list_append mt_append (pv 2) (pa_cons (pe_not (pe_bm0 PySem.F.plainAttrs_list PySem.F.slot_list_pop PySem.F.type_list_pop mt_pop (pv 2))) pa_nil)))) (pss_one (ps_if (pt_cmpR op_in_seq (pv 4) (pe_tup (pa_cons (pe_gint rfl T.g_BOTH) (pa_cons (pe_gint rfl T.g_EITHER) (pa_cons (pe_gint rfl T.g_IMPLIES) (pa_cons (pe_gint rfl T.g_DIFFER) pa_nil))))) (by with_unfolding_all rfl)) (pss_cons (ps_set (i := 5) sc_is_so.nd rfl (Or.inl rfl) (pe_bm0 PySem.F.plainAttrs_list PySem.F.slot_list_pop PySem.F.type_list_pop mt_pop (pv 2)))
        (pss_one (ps_expr (pe_bm PySem.F.plainAttrs_list PySem.F.slot_list_append PySem.F.type_list_append mt_append (pv 2) (pa_cons (pe_call G_is_join_so (hr.mono (by (first | lia | omega))) rfl T.m_is_join_so T.f_is_join_so.kp T.b_is_join_so .nil pass0 (pa_cons (pv 4) (pa_cons (pe_bm0 PySem.F.plainAttrs_list PySem.F.slot_list_pop PySem.F.type_list_pop mt_pop (pv 2)) (pa_cons (pv 5) pa_nil)))) pa_nil))))) (pss_one (ps_if (pt_cmpR op_eq (pv 4) (pe_gint rfl T.g_ALL) (nomark _)) (pss_one (ps_expr (pe_bm PySem.F.plainAttrs_list PySem.F.slot_list_append PySem.F.type_list_append mt_append (pv 2) (pa_cons (pe_cmp (pc_isN (pe_call G_least_value (hr.mono (by (first | lia | omega))) rfl T.m_least_value T.f_least_value.kp T.b_least_value .nil pass0 (pa_cons (pe_ix ix_tup (pv 3) pe_int (fun _ _ => rfl)) (pa_cons (pe_ix ix_tup (pv 3) pe_int (fun _ _ => rfl)) (pa_cons (pv 1) (pa_cons pe_bl pa_nil))))))) pa_nil)))) (pss_one (ps_if (pt_cmpR op_eq (pv 4) (pe_gint rfl T.g_SOME) (nomark _)) (pss_one (ps_expr (pe_bm PySem.F.plainAttrs_list PySem.F.slot_list_append PySem.F.type_list_append mt_append (pv 2) (pa_cons (pe_cmp (pc_notN (pe_call G_least_value (hr.mono (by (first | lia | omega))) rfl T.m_least_value T.f_least_value.kp T.b_least_value .nil pass0 (pa_cons (pe_ix ix_tup (pv 3) pe_int (fun _ _ => rfl)) (pa_cons (pe_ix ix_tup (pv 3) pe_int (fun _ _ => rfl)) (pa_cons (pv 1) (pa_cons pe_bl pa_nil))))))) pa_nil)))) (pss_one (ps_expr (pe_bm PySem.F.plainAttrs_list PySem.F.slot_list_append PySem.F.type_list_append mt_append (pv 2) (pa_cons (pe_call G_is_claim_so (hr.mono (by (first | lia | omega))) rfl T.m_is_claim_so T.f_is_claim_so.kp T.b_is_claim_so .nil pass0 (pa_cons (pv 3) (pa_cons (pv 1) pa_nil))) pa_nil))))))))))))))
        (pss_one (ps_ret (pe_bm0 PySem.F.plainAttrs_list PySem.F.slot_list_pop PySem.F.type_list_pop mt_pop (pv 2)))))), ?_⟩
      show (t_is_so_12 K a E d : TS) _ _ _
      have cl := hC.length
      refine ⟨Nat.zero_le _, fun D hD => ?_⟩
      have sm0 : Same H (upd H D (.lst [])) := same_new hD
      refine ⟨_, rfl, x, rfl, ⟨_, sm0.seq hx⟩, for_list (K := K) (a := x) (xs := xs) (fun i σ H' => Same H H' ∧ (∃ z3 z4 z5 : Option V, σ = [some (.ref x), some (.ref q), some (.ref D), z3, z4, z5]) ∧ ∃ stk : List Bool, H' D = some (.lst (stk.map V.bl)) ∧ runS v ((codeU t).drop i) stk = some [tB (SemU t v)] ∧ stk.length + (((codeU t).drop i).map wS).sum ≤ 64)
        ⟨sm0, ⟨none, none, none, rfl⟩, [], upd_same, run_codeU v t [], by rw [List.drop_zero, wS_codeU]; have := hF.2.2.1; simp; (first | lia | omega)⟩ (fun i σ H' _ ⟨e, _⟩ => e.seq hx) ?_ ?_⟩
      · rintro i y σ H' hy ⟨sm, ⟨z3, z4, z5, rfl⟩, stk, hD', hrun, hlen⟩
        obtain ⟨st, hsi, hst⟩ := (hC.same' sm).get hy
        have hmem := List.mem_of_getElem? hsi
        rw [drop_get hsi] at hrun hlen
        have hlen' : stk.length + (wS st + (((codeU t).drop (i + 1)).map wS).sum) ≤ 64 := by
          rw [List.map_cons, List.sum_cons] at hlen
          exact hlen
        have hrun' : (stepRun v st stk).bind (runS v ((codeU t).drop (i + 1))) = some [tB (SemU t v)] := hrun
        have fin : ∀ (z3 z4 z5 : Option V) (H2 : Hp) (stk2 : List Bool), Same H H2 → H2 D = some (.lst (stk2.map V.bl)) → stepRun v st stk = some stk2 → stk2.length ≤ stk.length + wS st →
            (Same H H2 ∧ (∃ z3' z4' z5' : Option V, [some (V.ref x), some (.ref q), some (.ref D), z3, z4, z5] = [some (.ref x), some (.ref q), some (.ref D), z3', z4', z5']) ∧ ∃ stk : List Bool, H2 D = some (.lst (stk.map V.bl)) ∧ runS v ((codeU t).drop (i + 1)) stk = some [tB (SemU t v)] ∧ stk.length + (((codeU t).drop (i + 1)).map wS).sum ≤ 64) := by
          intro z3 z4 z5 H2 stk2 h1 h2 h3 h4
          rw [h3] at hrun'
          exact ⟨h1, ⟨z3, z4, z5, rfl⟩, stk2, h2, hrun', by (first | lia | omega)⟩
        have upS : ∀ {H2 : Hp} (ys : List V), Same H' H2 → Same H (upd H2 D (.lst ys)) := fun ys s2 c oc e => by
          rw [upd_ne (ne_of_none e hD)]
          exact s2 _ _ (sm _ _ e)
        have upS2 : ∀ {H2 : Hp} (xs ys : List V), Same H' H2 → Same H (upd (upd H2 D (.lst xs)) D (.lst ys)) := fun xs ys s2 c oc e => by
          rw [upd_ne (ne_of_none e hD)]
          exact upS xs s2 _ _ e
        cases st with
        | nt =>
          obtain ⟨p, rfl, hp⟩ := hst
          first | refine ⟨_, rfl, ixT (SqT.of hp) rfl ?_⟩ | refine ⟨_, rfl, p, _, _, _, rfl, rfl, SqT.of hp, rfl, ?_⟩
          first | refine ⟨_, rfl, rfl, tk (ifEqT rfl ?_)⟩ | refine ⟨_, rfl, rfl, _, rfl, ifEqT rfl ?_⟩
          cases hrv : stk.reverse with
          | nil => simp [stepRun, hrv] at hrun'
          | cons b R =>
            obtain rfl := snoc_of hrv
            refine ⟨_, rfl, .inl ⟨rfl, _, SqL.of hD'⟩, ?_⟩
            first | refine ⟨_, rfl, .inl ⟨rfl, _, SqL.of hD'⟩, popL hD' (map_last _ _ _) ?_⟩ | refine ⟨_, rfl, .inl ⟨rfl, _, SqL.of hD'⟩, D, _, _, rfl, rfl, hD', map_last _ _ _, ?_⟩
            rw [map_drop]
            rw [List.length_append, List.length_singleton] at hlen'
            first | refine ⟨_, rfl, apd upd_same (line_big (by rw [List.length_map]; (first | lia | omega))) ?_⟩ | refine ⟨_, rfl, D, _, _, rfl, rfl, upd_same, line_big (by rw [List.length_map]; (first | lia | omega)), ?_⟩
            exact fin _ _ _ _ (R.reverse ++ [!b]) (upS2 _ _ (fun _ _ e => e)) (by rw [upd_same, List.map_append]; rfl) (by simp [stepRun]) (by simp)
        | jn o =>
          obtain ⟨p, rfl, ho, hp⟩ := hst
          have in1 : inV (.int (o : Nat)) [.int 38, .int 124, .int 62, .int 94] = true := by rcases ho with (rfl | rfl | rfl) | rfl <;> rfl
          first | refine ⟨_, rfl, ixT (SqT.of hp) rfl ?_⟩ | refine ⟨_, rfl, p, _, _, _, rfl, rfl, SqT.of hp, rfl, ?_⟩
          first | refine ⟨_, rfl, rfl, tk (ifEqF (by unfold isK isJ at ho; (first | lia | omega)) ?_)⟩ | refine ⟨_, rfl, rfl, _, rfl, ifEqF (by unfold isK isJ at ho; (first | lia | omega)) ?_⟩
          first | refine ⟨_, rfl, by show 4 ≤ sizeLine; decide, fun tp htp => inS (SqT.of upd_same) rfl rfl (tk (ifB in1 ?_))⟩ | refine ⟨_, rfl, by show 4 ≤ sizeLine; decide, fun tp htp => ⟨tp, _, rfl, .inr (SqT.of upd_same), rfl, rfl, _, rfl, ifB in1 ?_⟩⟩
          have s1 : Same H' (upd H' tp (.tup [.int 38, .int 124, .int 62, .int 94])) := same_new htp
          generalize upd H' tp (.tup [.int 38, .int 124, .int 62, .int 94]) = H1 at s1
          cases hrv : stk.reverse with
          | nil => simp [stepRun, hrv] at hrun'
          | cons b2 R2 =>
            obtain rfl := snoc_of hrv
            cases R2 with
            | nil => simp [stepRun] at hrun'
            | cons b1 R =>
              have e2 : (b1 :: R).reverse = R.reverse ++ [b1] := by simp
              rw [e2] at hD' hlen' hrun' fin
              rw [List.length_append, List.length_append, List.length_singleton, List.length_singleton] at hlen'
              have hD1 := s1 _ _ hD'
              first | refine ⟨_, rfl, .inl ⟨rfl, _, SqL.of hD1⟩, popL hD1 (map_last _ _ _) ?_⟩ | refine ⟨_, rfl, .inl ⟨rfl, _, SqL.of hD1⟩, D, _, _, rfl, rfl, hD1, map_last _ _ _, ?_⟩
              rw [map_drop]
              refine ⟨_, rfl, .inl ⟨rfl, _, SqL.of upd_same⟩, ?_⟩
              first | refine ⟨_, rfl, _, rfl, .inl ⟨rfl, _, SqL.of upd_same⟩, popL upd_same (map_last _ _ _) ?_⟩ | refine ⟨_, rfl, _, rfl, .inl ⟨rfl, _, SqL.of upd_same⟩, D, _, _, rfl, rfl, upd_same, map_last _ _ _, ?_⟩
              rw [map_drop]
              refine ⟨_, rfl, o, b1, b2, rfl, ?_⟩
              first | refine apd upd_same (line_big (by rw [List.length_map]; (first | lia | omega))) ?_ | refine ⟨D, _, _, rfl, rfl, upd_same, line_big (by rw [List.length_map]; (first | lia | omega)), ?_⟩
              refine fin _ _ _ _ (R.reverse ++ [if o = 38 then b1 && b2 else if o = 124 then b1 || b2 else if o = 62 then b2 || !b1 else !decide (b1 = b2)]) (fun c oc e => by rw [upd_ne (ne_of_none e hD)]; exact upS2 _ _ s1 _ _ e) (by rw [upd_same, List.map_append]; rfl) (by simp [stepRun]) (by simp; (first | lia | omega))
        | bd qq u b =>
          obtain ⟨p, bo, ys, rfl, hqq, hp, hbo, hcode⟩ := hst
          have hfc := fine_codeU hF _ hmem
          obtain ⟨hu, fb⟩ := hfc.1
          have dep := hfc.2 _ _ _ rfl
          have bp := brk_pos b
          have hw1 : wS (.bd qq u b) = (brackets b).length := rfl
          have in0 : inV (.int (qq : Nat)) [.int 38, .int 124, .int 62, .int 94] = false := by rcases hqq with rfl | rfl <;> rfl
          have push : ∀ bb : Bool, bb = tB (SemB qq u b v) → ∀ (z3 z4 z5 : Option V) (H2 : Hp), Same H' H2 → _ := fun bb e z3 z4 z5 H2 s2 =>
            fin z3 z4 z5 (upd H2 D (.lst (stk.map V.bl ++ [.bl bb]))) (stk ++ [bb]) (upS _ s2) (by rw [upd_same, List.map_append]; rfl) (by rw [e]; rfl) (by rw [List.length_append, List.length_singleton]; (first | lia | omega))
          first | refine ⟨_, rfl, ixT (SqT.of hp) rfl ?_⟩ | refine ⟨_, rfl, p, _, _, _, rfl, rfl, SqT.of hp, rfl, ?_⟩
          first | refine ⟨_, rfl, rfl, tk (ifEqF (by (first | lia | omega)) ?_)⟩ | refine ⟨_, rfl, rfl, _, rfl, ifEqF (by (first | lia | omega)) ?_⟩
          first | refine ⟨_, rfl, by show 4 ≤ sizeLine; decide, fun tp htp => inS (SqT.of upd_same) rfl rfl (tk (ifBF in0 ?_))⟩ | refine ⟨_, rfl, by show 4 ≤ sizeLine; decide, fun tp htp => ⟨tp, _, rfl, .inr (SqT.of upd_same), rfl, rfl, _, rfl, ifBF in0 ?_⟩⟩
          have s1 : Same H' (upd H' tp (.tup [.int 38, .int 124, .int 62, .int 94])) := same_new htp
          generalize upd H' tp (.tup [.int 38, .int 124, .int 62, .int 94]) = H1 at s1
          have hD1 := s1 _ _ hD'
          have hp1 := s1 _ _ hp
          have sl : (stk.map V.bl).length < sizeLine := line_big (by rw [List.length_map]; (first | lia | omega))
          rcases hqq with rfl | rfl
          · first | refine ⟨_, rfl, rfl, tk (ifEqT rfl ?_)⟩ | refine ⟨_, rfl, rfl, _, rfl, ifEqT rfl ?_⟩
            refine ⟨_, rfl, .inl ⟨rfl, _, SqL.of hD1⟩, ?_⟩
            first | refine ⟨_, rfl, ixT (SqT.of hp1) rfl ⟨_, rfl, ixT (SqT.of hp1) rfl ⟨_, rfl, ?_⟩⟩⟩ | refine ⟨_, rfl, p, _, _, _, rfl, rfl, SqT.of hp1, rfl, _, rfl, p, _, _, _, rfl, rfl, SqT.of hp1, rfl, _, rfl, ?_⟩
            refine ⟨u, bo, q, false, ys, b, v, rfl, hu, SqL.of (s1 _ _ hbo), hcode.same' s1, fb, by (first | lia | omega), (sm.trans s1).seq hq, ?_, ?_⟩
            · intro n H2 s2 h1 _
              first | refine ⟨D, i2 ⟨s2 _ _ hD1, sl, ?_⟩⟩ | refine ⟨D, _, _, rfl, rfl, s2 _ _ hD1, sl, ?_⟩
              refine push false ?_ _ _ _ _ (s1.trans s2)
              refine tB_eq ⟨fun z => (by cases z), fun z => ?_⟩
              rw [tB_iff.mpr (z n)] at h1
              exact h1.symm
            · intro h1 H2 s2
              first | refine ⟨D, i2 ⟨s2 _ _ hD1, sl, ?_⟩⟩ | refine ⟨D, _, _, rfl, rfl, s2 _ _ hD1, sl, ?_⟩
              refine push true ?_ _ _ _ _ (s1.trans s2)
              refine tB_eq ⟨fun _ n => ?_, fun _ => rfl⟩
              have := h1 n
              rw [Bool.not_eq_false, tB_iff] at this
              exact this
          · first | refine ⟨_, rfl, rfl, tk (ifEqF (by decide) ?_)⟩ | refine ⟨_, rfl, rfl, _, rfl, ifEqF (by decide) ?_⟩
            first | refine ⟨_, rfl, rfl, tk (ifEqT rfl ?_)⟩ | refine ⟨_, rfl, rfl, _, rfl, ifEqT rfl ?_⟩
            refine ⟨_, rfl, .inl ⟨rfl, _, SqL.of hD1⟩, ?_⟩
            first | refine ⟨_, rfl, ixT (SqT.of hp1) rfl ⟨_, rfl, ixT (SqT.of hp1) rfl ⟨_, rfl, ?_⟩⟩⟩ | refine ⟨_, rfl, p, _, _, _, rfl, rfl, SqT.of hp1, rfl, _, rfl, p, _, _, _, rfl, rfl, SqT.of hp1, rfl, _, rfl, ?_⟩
            refine ⟨u, bo, q, true, ys, b, v, rfl, hu, SqL.of (s1 _ _ hbo), hcode.same' s1, fb, by (first | lia | omega), (sm.trans s1).seq hq, ?_, ?_⟩
            · intro n H2 s2 h1 _
              first | refine ⟨D, i2 ⟨s2 _ _ hD1, sl, ?_⟩⟩ | refine ⟨D, _, _, rfl, rfl, s2 _ _ hD1, sl, ?_⟩
              refine push true ?_ _ _ _ _ (s1.trans s2)
              exact tB_eq ⟨fun _ => ⟨n, tB_iff.mp h1⟩, fun _ => rfl⟩
            · intro h1 H2 s2
              first | refine ⟨D, i2 ⟨s2 _ _ hD1, sl, ?_⟩⟩ | refine ⟨D, _, _, rfl, rfl, s2 _ _ hD1, sl, ?_⟩
              refine push false ?_ _ _ _ _ (s1.trans s2)
              refine tB_eq ⟨fun z => (by cases z), fun ⟨n, z⟩ => ?_⟩
              exact absurd (tB_iff.mpr z) (h1 n)
        | less sa sb =>
          have hst0 := hst
          obtain ⟨p, q', rfl, hp, hq'⟩ := hst
          first | refine ⟨_, rfl, ixT (SqT.of hp) rfl ?_⟩ | refine ⟨_, rfl, p, _, _, _, rfl, rfl, SqT.of hp, rfl, ?_⟩
          first | refine ⟨_, rfl, rfl, tk (ifEqF (by decide) ?_)⟩ | refine ⟨_, rfl, rfl, _, rfl, ifEqF (by decide) ?_⟩
          first | refine ⟨_, rfl, by show 4 ≤ sizeLine; decide, fun tp htp => inS (SqT.of upd_same) rfl rfl (tk (ifBF rfl ?_))⟩ | refine ⟨_, rfl, by show 4 ≤ sizeLine; decide, fun tp htp => ⟨tp, _, rfl, .inr (SqT.of upd_same), rfl, rfl, _, rfl, ifBF rfl ?_⟩⟩
          have s1 : Same H' (upd H' tp (.tup [.int 38, .int 124, .int 62, .int 94])) := same_new htp
          generalize upd H' tp (.tup [.int 38, .int 124, .int 62, .int 94]) = H1 at s1
          have hD1 := s1 _ _ hD'
          first | refine ⟨_, rfl, rfl, tk (ifEqF (by decide) ⟨_, rfl, rfl, tk (ifEqF (by decide) ?_)⟩)⟩ | refine ⟨_, rfl, rfl, _, rfl, ifEqF (by decide) ⟨_, rfl, rfl, _, rfl, ifEqF (by decide) ?_⟩⟩
          refine ⟨_, rfl, .inl ⟨rfl, _, SqL.of hD1⟩, ?_⟩
          refine ⟨_, rfl, _, rfl, .ref p, q, .less sa sb, v, rfl, ⟨p, q', rfl, s1 _ _ hp, s1 _ _ hq'⟩, rfl, (fine_codeU hF _ hmem).1, (sm.trans s1).seq hq, ?_⟩
          first | refine apd hD1 (line_big (by rw [List.length_map]; have : wS (.less sa sb) = 1 := rfl; (first | lia | omega))) ?_ | refine ⟨D, _, _, rfl, rfl, hD1, line_big (by rw [List.length_map]; have : wS (.less sa sb) = 1 := rfl; (first | lia | omega)), ?_⟩
          exact fin _ _ _ _ (stk ++ [tB (clm v (.less sa sb))]) (upS _ s1) (by rw [upd_same, List.map_append]; rfl) rfl (by rw [List.length_append, List.length_singleton]; exact Nat.le_refl _)
        | same sa sb =>
          have hst0 := hst
          obtain ⟨p, q', rfl, hp, hq'⟩ := hst
          first | refine ⟨_, rfl, ixT (SqT.of hp) rfl ?_⟩ | refine ⟨_, rfl, p, _, _, _, rfl, rfl, SqT.of hp, rfl, ?_⟩
          first | refine ⟨_, rfl, rfl, tk (ifEqF (by decide) ?_)⟩ | refine ⟨_, rfl, rfl, _, rfl, ifEqF (by decide) ?_⟩
          first | refine ⟨_, rfl, by show 4 ≤ sizeLine; decide, fun tp htp => inS (SqT.of upd_same) rfl rfl (tk (ifBF rfl ?_))⟩ | refine ⟨_, rfl, by show 4 ≤ sizeLine; decide, fun tp htp => ⟨tp, _, rfl, .inr (SqT.of upd_same), rfl, rfl, _, rfl, ifBF rfl ?_⟩⟩
          have s1 : Same H' (upd H' tp (.tup [.int 38, .int 124, .int 62, .int 94])) := same_new htp
          generalize upd H' tp (.tup [.int 38, .int 124, .int 62, .int 94]) = H1 at s1
          have hD1 := s1 _ _ hD'
          first | refine ⟨_, rfl, rfl, tk (ifEqF (by decide) ⟨_, rfl, rfl, tk (ifEqF (by decide) ?_)⟩)⟩ | refine ⟨_, rfl, rfl, _, rfl, ifEqF (by decide) ⟨_, rfl, rfl, _, rfl, ifEqF (by decide) ?_⟩⟩
          refine ⟨_, rfl, .inl ⟨rfl, _, SqL.of hD1⟩, ?_⟩
          refine ⟨_, rfl, _, rfl, .ref p, q, .same sa sb, v, rfl, ⟨p, q', rfl, s1 _ _ hp, s1 _ _ hq'⟩, rfl, (fine_codeU hF _ hmem).1, (sm.trans s1).seq hq, ?_⟩
          first | refine apd hD1 (line_big (by rw [List.length_map]; have : wS (.same sa sb) = 1 := rfl; (first | lia | omega))) ?_ | refine ⟨D, _, _, rfl, rfl, hD1, line_big (by rw [List.length_map]; have : wS (.same sa sb) = 1 := rfl; (first | lia | omega)), ?_⟩
          exact fin _ _ _ _ (stk ++ [tB (clm v (.same sa sb))]) (upS _ s1) (by rw [upd_same, List.map_append]; rfl) rfl (by rw [List.length_append, List.length_singleton]; exact Nat.le_refl _)
        | rest sa m r =>
          have hst0 := hst
          obtain ⟨p, q', rfl, hp, hq'⟩ := hst
          first | refine ⟨_, rfl, ixT (SqT.of hp) rfl ?_⟩ | refine ⟨_, rfl, p, _, _, _, rfl, rfl, SqT.of hp, rfl, ?_⟩
          first | refine ⟨_, rfl, rfl, tk (ifEqF (by decide) ?_)⟩ | refine ⟨_, rfl, rfl, _, rfl, ifEqF (by decide) ?_⟩
          first | refine ⟨_, rfl, by show 4 ≤ sizeLine; decide, fun tp htp => inS (SqT.of upd_same) rfl rfl (tk (ifBF rfl ?_))⟩ | refine ⟨_, rfl, by show 4 ≤ sizeLine; decide, fun tp htp => ⟨tp, _, rfl, .inr (SqT.of upd_same), rfl, rfl, _, rfl, ifBF rfl ?_⟩⟩
          have s1 : Same H' (upd H' tp (.tup [.int 38, .int 124, .int 62, .int 94])) := same_new htp
          generalize upd H' tp (.tup [.int 38, .int 124, .int 62, .int 94]) = H1 at s1
          have hD1 := s1 _ _ hD'
          first | refine ⟨_, rfl, rfl, tk (ifEqF (by decide) ⟨_, rfl, rfl, tk (ifEqF (by decide) ?_)⟩)⟩ | refine ⟨_, rfl, rfl, _, rfl, ifEqF (by decide) ⟨_, rfl, rfl, _, rfl, ifEqF (by decide) ?_⟩⟩
          refine ⟨_, rfl, .inl ⟨rfl, _, SqL.of hD1⟩, ?_⟩
          refine ⟨_, rfl, _, rfl, .ref p, q, .rest sa m r, v, rfl, ⟨p, q', rfl, s1 _ _ hp, s1 _ _ hq'⟩, rfl, (fine_codeU hF _ hmem).1, (sm.trans s1).seq hq, ?_⟩
          first | refine apd hD1 (line_big (by rw [List.length_map]; have : wS (.rest sa m r) = 1 := rfl; (first | lia | omega))) ?_ | refine ⟨D, _, _, rfl, rfl, hD1, line_big (by rw [List.length_map]; have : wS (.rest sa m r) = 1 := rfl; (first | lia | omega)), ?_⟩
          exact fin _ _ _ _ (stk ++ [tB (clm v (.rest sa m r))]) (upS _ s1) (by rw [upd_same, List.map_append]; rfl) rfl (by rw [List.length_append, List.length_singleton]; exact Nat.le_refl _)
      · rintro σ H' ⟨sm, ⟨z3, z4, z5, rfl⟩, stk, hD', hrun, hlen⟩
        rw [cl, List.drop_length] at hrun
        cases hrun
        first | refine ⟨_, rfl, .inl ⟨rfl, _, SqL.of hD'⟩, popL hD' rfl ?_⟩ | refine ⟨_, rfl, .inl ⟨rfl, _, SqL.of hD'⟩, D, _, _, rfl, rfl, hD', rfl, ?_⟩
        exact k _ (fun c oc e => by rw [upd_ne (ne_of_none e hD)]; exact sm _ _ e)
end
end WS
end
section
set_option Elab.async false
set_option linter.all false
set_option maxRecDepth 100000
set_option maxHeartbeats 1000000
namespace WS
open PySem PySem.Spec PyProof.Rows L2
open Sy15 (T Val put)
structure RA where
  r : Addr
  dx : Addr
  tx : Addr
  f : Addr
  w : Addr
  s0 : Addr
  B : Addr
def RA.fs (x : RA) (p : Nat) : List (Str × V) := [("text", .ref x.tx), ("place", .int (p : Nat)), ("refusal", .int 0), ("free", .ref x.f), ("waiting", .ref x.w), ("steps", .ref x.s0), ("bodies", .ref x.B)]
def RA.mv (x : RA) (C : Addr) (H : Hp) (p : Nat) : Hp := upd H x.r (.ins C x.dx (x.fs p))
def bl (b : List Nat) : List V := b.map fun n => V.int ((n : Nat) : Int)
structure RP (K : PySem.W.Frag) (C : Addr) (H : Hp) (x : RA) (b : List Nat) (p : Nat) : Prop where
  at_ : H x.r = some (.ins C x.dx (x.fs p))
  tx : SqL K H x.tx (bl b)
theorem mv_mv (x : RA) (C : Addr) (H : Hp) (p q : Nat) : x.mv C (x.mv C H p) q = x.mv C H q := upd_upd
theorem mv_same (x : RA) (C : Addr) (H : Hp) (p : Nat) : (x.mv C H p) x.r = some (.ins C x.dx (x.fs p)) := upd_same
theorem SqL.ins {K : PySem.W.Frag} {H : Hp} {t r C dx C2 dx2 : Addr} {fs fs2 : List (Str × V)} {xs : List V} (hr : H r = some (.ins C dx fs)) (h : SqL K H t xs) : SqL K (upd H r (.ins C2 dx2 fs2)) t xs := by
  rcases h with (h | ⟨ob, e⟩) | h
  · exact .inl (.inl (by rw [upd_ne (ne_of h hr (by intro z; cases z))]; exact h))
  · exact .inl (.inr ⟨ob, by rw [upd_ne (ne_of e hr (by intro z; cases z))]; exact e⟩)
  · exact .inr h
theorem RP.mv {K : PySem.W.Frag} {C : Addr} {H : Hp} {x : RA} {b : List Nat} {p : Nat} (h : RP K C H x b p) (q : Nat) : RP K C (x.mv C H q) x b q := ⟨upd_same, SqL.ins h.at_ h.tx⟩
def pk : List Nat → Int
  | [] => -1
  | c :: _ => (c : Nat)
theorem bl_len (b : List Nat) : (bl b).length = b.length := List.length_map ..
theorem bl_at {b : List Nat} {p : Nat} (h : p < b.length) : atI (bl b) (p : Int) = some (.int (pk (b.drop p))) := by
  refine atI_nat ?_
  unfold bl
  rw [List.getElem?_map, List.getElem?_eq_getElem h, List.drop_eq_getElem_cons h]
  rfl
theorem pk_end {b : List Nat} {p : Nat} (h : ¬ p < b.length) : pk (b.drop p) = -1 := by
  rw [List.drop_eq_nil_of_le (by (first | lia | omega))]
  rfl
section
variable {P : Program} {w : World} {K : PySem.W.Frag} {mg : Str → Option Value} {base : Heap} {a : Adr}
def sp_peek (K : PySem.W.Frag) (C : Addr) : Sp := fun vs H Q _ => ∃ (x : RA) (b : List Nat) (p : Nat), vs = [.ref x.r] ∧ RP K C H x b p ∧ Q (.int (pk (b.drop p))) H
@[reducible] def t_peek_0 (K : PySem.W.Frag) (a : Adr) (E : XK) (d : Nat) : TS := (tRet (tIf (tTest (tOp (rI0 fun i j => .bl (decide (i < j))) (tFld K (tVar 0) "place") (tCB (rLen K) (tCons (tFld K (tVar 0) "text") tNil)))) (tOp (rIxL K) (tFld K (tVar 0) "text") (tFld K (tVar 0) "place")) (tC (.int (-1)))))
theorem ok_peek (T : Txt K mg a) : FnOk P w K mg base CX0 1 a.f_peek a.d_peek ["self"] (sp_peek K a.C_Reader) := by
  refine T.f_peek.ok sc_peek (fun vs H Q E h => ?_) (fun cdv A outer s H vs Q E hr h => ?_)
  · obtain ⟨x, b, p, rfl, _⟩ := h
    rfl
  · obtain ⟨x, b, p, rfl, ⟨hr', ht⟩, k⟩ := h
    refine ⟨_, (pss_one (ps_ret (pe_ifExp (pt_cmpR op_lt (pe_fld (pv 0) (by rfl)) (pe_callB call_len_seq rfl T.n_len PySem.boot_len (pa_cons (pe_fld (pv 0) (by rfl)) pa_nil)) (nomark _)) (pe_ix ix_list (pe_fld (pv 0) (by rfl)) (pe_fld (pv 0) (by rfl)) (fun _ _ => rfl)) (pe_gint rfl T.g_NOTHING)))), ?_⟩
    show (t_peek_0 K a E 0 : TS) _ _ _
    first | refine fldV rfl hr' T.c_Reader T.a_Reader_place rfl (fldV rfl hr' T.c_Reader T.a_Reader_text rfl ⟨x.tx, _, rfl, .inl ht, i2 ⟨_, rfl, ?_⟩⟩) | refine ⟨_, rfl, x.r, _, x.dx, _, _, rfl, hr', T.c_Reader, T.a_Reader_place, rfl, _, rfl, x.r, _, x.dx, _, _, rfl, hr', T.c_Reader, T.a_Reader_text, rfl, x.tx, _, rfl, .inl ht, _, _, rfl, rfl, _, rfl, ?_⟩
    rw [bl_len]
    by_cases hp : p < b.length
    · refine ifT (by (first | lia | omega)) ?_
      first | refine fldV rfl hr' T.c_Reader T.a_Reader_text rfl (fldV rfl hr' T.c_Reader T.a_Reader_place rfl (ixL ht (bl_at hp) k)) | refine ⟨_, rfl, x.r, _, x.dx, _, _, rfl, hr', T.c_Reader, T.a_Reader_text, rfl, _, rfl, x.r, _, x.dx, _, _, rfl, hr', T.c_Reader, T.a_Reader_place, rfl, x.tx, _, _, _, rfl, rfl, ht, bl_at hp, k⟩
    · refine ifF (by (first | lia | omega)) ?_
      rw [pk_end hp] at k
      exact k
def sp_take (K : PySem.W.Frag) (C : Addr) : Sp := fun vs H Q _ => ∃ (x : RA) (b : List Nat) (p : Nat), vs = [.ref x.r] ∧ RP K C H x b p ∧ Q (.int (pk (b.drop p))) (x.mv C H (p + 1))
@[reducible] def t_take_0 (K : PySem.W.Frag) (a : Adr) (E : XK) (d : Nat) : TS := tSeq (sFldAug K (tVar 0) (tC (.int 1)) rAdd "place") (tRet (tVar 1))
@[reducible] def t_take_1 (K : PySem.W.Frag) (a : Adr) (E : XK) (d : Nat) : TS := tSeq (tAsg (tMeth a.C_Reader "peek" (sp_peek K a.C_Reader) [] E0 (tVar 0) tNil) (gName 1)) (t_take_0 K a E d)
theorem ok_take (T : Txt K mg a) : FnOk P w K mg base CX0 2 a.f_take a.d_take ["self"] (sp_take K a.C_Reader) := by
  have G_peek : FnOk P w K mg base CX0 1 a.f_peek a.d_peek ["self"] (sp_peek K a.C_Reader) := ok_peek T
  refine T.f_take.ok sc_take (fun vs H Q E h => ?_) (fun cdv A outer s H vs Q E hr h => ?_)
  · obtain ⟨x, b, p, rfl, _⟩ := h
    rfl
  · obtain ⟨x, b, p, rfl, hp, k⟩ := h
    refine ⟨_, (pss_cons (ps_set (i := 1) sc_take.nd rfl (Or.inl rfl) (pe_meth0 (pv 0) T.c_Reader T.h_peek G_peek (hr.mono (by decide)) T.b_peek .nil pass0))
        (pss_cons (ps_fldaug (pv 0) pe_int in_add)
        (pss_one (ps_ret (pv 1))))), ?_⟩
    show (t_take_1 K a E 0 : TS) _ _ _
    first | refine methV rfl hp.at_ rfl ⟨x, b, p, rfl, hp, ?_⟩ | refine ⟨_, rfl, x.r, x.dx, _, rfl, hp.at_, rfl, x, b, p, rfl, hp, ?_⟩
    refine ⟨_, rfl, x.r, _, x.dx, _, _, rfl, hp.at_, T.c_Reader, T.a_Reader_place, rfl, ?_⟩
    refine ⟨_, _, rfl, rfl, x.dx, _, hp.at_, by show 7 < 1000; decide, ?_⟩
    exact ⟨_, rfl, k⟩
abbrev AtE (E : XK) (H : Hp) : Prop := ∀ c d, E c d H
def sp_take_just (K : PySem.W.Frag) (C : Addr) : Sp := fun vs H Q E => ∃ (x : RA) (b : List Nat) (p : Nat) (c : Nat), vs = [.ref x.r, .int (c : Nat)] ∧ RP K C H x b p ∧ (∀ r, b.drop p = c :: r → Q .non (x.mv C H (p + 1))) ∧ ((∀ r, b.drop p ≠ c :: r) → AtE E (x.mv C H (p + 1)))
theorem pk_eq {l : List Nat} {c : Nat} (h : pk l = (c : Nat)) : ∃ r, l = c :: r := by
  cases l with
  | nil => exact absurd h (by show (-1 : Int) ≠ _; (first | lia | omega))
  | cons d r => exact ⟨r, by rw [show d = c from by have h' : ((d : Nat) : Int) = (c : Nat) := h; (first | lia | omega)]⟩
@[reducible] def t_take_just_0 (K : PySem.W.Frag) (a : Adr) (E : XK) (d : Nat) : TS := (fun _ _ H => E (.ref a.C_NoText) none H)
@[reducible] def t_take_just_1 (K : PySem.W.Frag) (a : Adr) (E : XK) (d : Nat) : TS := (tIfS (tTest (tOp rNe (tMeth a.C_Reader "take" (sp_take K a.C_Reader) [] E0 (tVar 0) tNil) (tVar 1))) (t_take_just_0 K a E d) tNext)
theorem ok_take_just (T : Txt K mg a) : FnOk P w K mg base (CXN P w a.C_NoText) 3 a.f_take_just a.d_take_just ["self", "byte"] (sp_take_just K a.C_Reader) := by
  have G_take : FnOk P w K mg base CX0 2 a.f_take a.d_take ["self"] (sp_take K a.C_Reader) := ok_take T
  refine Fun.okN T.f_take_just sc_take_just (fun vs H Q E h => ?_) (fun cdv A outer s H vs Q E hr h => ?_)
  · obtain ⟨x, b, p, c, rfl, _⟩ := h
    rfl
  · obtain ⟨x, b, p, c, rfl, hp, k1, k2⟩ := h
    refine ⟨_, (pss_one (ps_if (pt_cmpR op_ne (pe_meth0 (pv 0) T.c_Reader T.h_take G_take (hr.mono (by decide)) T.b_take .nil pass0) (pv 1) (nomark _)) (pss_one (ps_raiseN T.exc rfl T.m_NoText)) pss_nil)), ?_⟩
    show (t_take_just_1 K a E 0 : TS) _ _ _
    first | refine methV rfl hp.at_ rfl ⟨x, b, p, rfl, hp, ?_⟩ | refine ⟨_, rfl, x.r, x.dx, _, rfl, hp.at_, rfl, x, b, p, rfl, hp, ?_⟩
    refine ⟨_, rfl, rfl, _, rfl, ?_⟩
    by_cases e : pk (b.drop p) = (c : Nat)
    · obtain ⟨r, hr'⟩ := pk_eq e
      exact ifNeF e (k1 r hr')
    · refine ifNeT e (k2 (fun r hr' => e ?_) _ _)
      rw [hr']
      rfl
def sp_take_digit (K : PySem.W.Frag) (C : Addr) : Sp := fun vs H Q E => ∃ (x : RA) (b : List Nat) (p : Nat) (lo hi : Int), vs = [.ref x.r, .int lo, .int hi] ∧ 0 ≤ lo ∧ hi ≤ 9 ∧ RP K C H x b p ∧ (∀ c k r, b.drop p = c :: r → Sy15.digit c = some k → lo ≤ (k : Int) → (k : Int) ≤ hi → Q (.int (k : Nat)) (x.mv C H (p + 1))) ∧
  ((∀ c k r, b.drop p = c :: r → Sy15.digit c = some k → lo ≤ (k : Int) → (k : Int) ≤ hi → False) → AtE E (x.mv C H (p + 1)))
@[reducible] def t_take_digit_0 (K : PySem.W.Frag) (a : Adr) (E : XK) (d : Nat) : TS := (fun _ _ H => E (.ref a.C_NoText) none H)
@[reducible] def t_take_digit_1 (K : PySem.W.Frag) (a : Adr) (E : XK) (d : Nat) : TS := tSeq (tIfS (tOr (tTest (tOp (rI0 fun i j => .bl (decide (i < j))) (tVar 3) (tVar 1))) (tTest (tOp (rI0 fun i j => .bl (decide (j < i))) (tVar 3) (tVar 2)))) (t_take_digit_0 K a E d) tNext) (tRet (tVar 3))
@[reducible] def t_take_digit_2 (K : PySem.W.Frag) (a : Adr) (E : XK) (d : Nat) : TS := tSeq (tAsg (tOp (rI0 fun i j => .int (i - j)) (tMeth a.C_Reader "take" (sp_take K a.C_Reader) [] E0 (tVar 0) tNil) (tC (.int (48)))) (gName 3)) (t_take_digit_1 K a E d)
theorem ok_take_digit (T : Txt K mg a) : FnOk P w K mg base (CXN P w a.C_NoText) 3 a.f_take_digit a.d_take_digit ["self", "lowest", "highest"] (sp_take_digit K a.C_Reader) := by
  have G_take : FnOk P w K mg base CX0 2 a.f_take a.d_take ["self"] (sp_take K a.C_Reader) := ok_take T
  refine Fun.okN T.f_take_digit sc_take_digit (fun vs H Q E h => ?_) (fun cdv A outer s H vs Q E hr h => ?_)
  · obtain ⟨x, b, p, lo, hi, rfl, _⟩ := h
    rfl
  · obtain ⟨x, b, p, lo, hi, rfl, hlo, hhi, hp, k1, k2⟩ := h
    refine ⟨_, (pss_cons (ps_set (i := 3) sc_take_digit.nd rfl (Or.inl rfl) (pe_op op_sub (pe_meth0 (pv 0) T.c_Reader T.h_take G_take (hr.mono (by decide)) T.b_take .nil pass0) (pe_gint rfl T.g_ZERO)))
        (pss_cons (ps_if (PW.pt (pw_or (pt_cmpR op_lt (pv 3) (pv 1) (nomark _)) (pw_or1 (pt_cmpR op_gt (pv 3) (pv 2) (nomark _))))) (pss_one (ps_raiseN T.exc rfl T.m_NoText)) pss_nil)
        (pss_one (ps_ret (pv 3))))), ?_⟩
    show (t_take_digit_2 K a E 0 : TS) _ _ _
    first | refine methV rfl hp.at_ rfl ⟨x, b, p, rfl, hp, ?_⟩ | refine ⟨_, rfl, x.r, x.dx, _, rfl, hp.at_, rfl, x, b, p, rfl, hp, ?_⟩
    first | refine i2 ?_ | refine ⟨_, _, rfl, rfl, ?_⟩
    have good : lo ≤ pk (b.drop p) - 48 → pk (b.drop p) - 48 ≤ hi → ∃ c k r, b.drop p = c :: r ∧ Sy15.digit c = some k ∧ pk (b.drop p) - 48 = (k : Nat) := fun h1 h2 => by
      obtain ⟨r, e⟩ := pk_eq (l := b.drop p) (c := (pk (b.drop p)).toNat) (by (first | lia | omega))
      refine ⟨_, (pk (b.drop p)).toNat - 48, r, e, ?_, by (first | lia | omega)⟩
      unfold Sy15.digit
      rw [if_pos (by (first | lia | omega))]
    have bad : ¬ (lo ≤ pk (b.drop p) - 48 ∧ pk (b.drop p) - 48 ≤ hi) → AtE E (x.mv a.C_Reader H (p + 1)) := fun hn => k2 fun c k r e hd h1 h2 => hn (by
      have := digit_some hd
      rw [e]
      have e2 : pk (c :: r) = (c : Nat) := rfl
      rw [e2]
      (first | lia | omega))
    first | refine ⟨_, rfl, _, rfl, i2 ⟨_, rfl, ?_⟩⟩ | refine ⟨_, rfl, _, rfl, _, _, rfl, rfl, _, rfl, ?_⟩
    by_cases h1 : pk (b.drop p) - 48 < lo
    · refine ifT h1 ?_
      exact bad (by (first | lia | omega)) _ _
    · refine ifF h1 ?_
      first | refine ⟨_, rfl, _, rfl, i2 ⟨_, rfl, ?_⟩⟩ | refine ⟨_, rfl, _, rfl, _, _, rfl, rfl, _, rfl, ?_⟩
      by_cases h2 : hi < pk (b.drop p) - 48
      · refine ifT h2 ?_
        exact bad (by (first | lia | omega)) _ _
      · refine ifF h2 ?_
        obtain ⟨c, k, r, e, hd, ek⟩ := good (by (first | lia | omega)) (by (first | lia | omega))
        refine ⟨_, rfl, ?_⟩
        have := k1 c k r e hd (by (first | lia | omega)) (by (first | lia | omega))
        rw [← ek] at this
        exact this
def sp_take_unknown (K : PySem.W.Frag) (C : Addr) : Sp := fun vs H Q E => ∃ (x : RA) (b : List Nat) (p : Nat), vs = [.ref x.r] ∧ RP K C H x b p ∧ (∀ c u r, b.drop p = c :: r → Sy15.unknown c = some u → Q (.int (u : Nat)) (x.mv C H (p + 1))) ∧
  ((∀ c u r, b.drop p = c :: r → Sy15.unknown c = some u → False) → AtE E (x.mv C H (p + 1)))
theorem in_unk (l : List Nat) : (inV (.int (pk l)) [.int 120, .int 121, .int 122] = true ∧ ∃ c u r, l = c :: r ∧ Sy15.unknown c = some u ∧ pk l = 120 + (u : Int) ∧ u < 3) ∨ (inV (.int (pk l)) [.int 120, .int 121, .int 122] = false ∧ ∀ c u r, l = c :: r → Sy15.unknown c = some u → False) := by
  have iv : inV (.int (pk l)) [.int 120, .int 121, .int 122] = ((120 == pk l) || ((121 == pk l) || ((122 == pk l) || false))) := rfl
  by_cases h : 120 ≤ pk l ∧ pk l ≤ 122
  · left
    obtain ⟨r, e⟩ := pk_eq (l := l) (c := (pk l).toNat) (by (first | lia | omega))
    refine ⟨?_, _, (pk l).toNat - 120, r, e, ?_, by (first | lia | omega), by (first | lia | omega)⟩
    · rw [iv]
      rcases (show pk l = 120 ∨ pk l = 121 ∨ pk l = 122 by (first | lia | omega)) with z | z | z <;> rw [z] <;> rfl
    · unfold Sy15.unknown
      rw [if_pos (by (first | lia | omega))]
  · right
    constructor
    · rw [iv]
      simp only [Bool.or_false, Bool.or_eq_false_iff, beq_eq_false_iff_ne]
      (first | lia | omega)
    · intro c u r e hu
      have := unknown_some hu
      subst e
      have e2 : pk (c :: r) = (c : Nat) := rfl
      rw [e2] at h
      (first | lia | omega)
@[reducible] def t_take_unknown_0 (K : PySem.W.Frag) (a : Adr) (E : XK) (d : Nat) : TS := (tRet (tBM K "tuple" (rTIdx K) (tC (.ref a.uU)) (tCons (tVar 1) tNil)))
@[reducible] def t_take_unknown_1 (K : PySem.W.Frag) (a : Adr) (E : XK) (d : Nat) : TS := (fun _ _ H => E (.ref a.C_NoText) none H)
@[reducible] def t_take_unknown_2 (K : PySem.W.Frag) (a : Adr) (E : XK) (d : Nat) : TS := tSeq (tIfS (tTest (tOp (rIn K true) (tVar 1) (tC (.ref a.uU)))) (t_take_unknown_1 K a E d) tNext) (t_take_unknown_0 K a E d)
@[reducible] def t_take_unknown_3 (K : PySem.W.Frag) (a : Adr) (E : XK) (d : Nat) : TS := tSeq (tAsg (tMeth a.C_Reader "take" (sp_take K a.C_Reader) [] E0 (tVar 0) tNil) (gName 1)) (t_take_unknown_2 K a E d)
theorem ok_take_unknown (T : Txt K mg a) : FnOk P w K mg base (CXN P w a.C_NoText) 3 a.f_take_unknown a.d_take_unknown ["self"] (sp_take_unknown K a.C_Reader) := by
  have G_take : FnOk P w K mg base CX0 2 a.f_take a.d_take ["self"] (sp_take K a.C_Reader) := ok_take T
  refine Fun.okN T.f_take_unknown sc_take_unknown (fun vs H Q E h => ?_) (fun cdv A outer s H vs Q E hr h => ?_)
  · obtain ⟨x, b, p, rfl, _⟩ := h
    rfl
  · obtain ⟨x, b, p, rfl, hp, k1, k2⟩ := h
    refine ⟨_, (pss_cons (ps_set (i := 1) sc_take_unknown.nd rfl (Or.inl rfl) (pe_meth0 (pv 0) T.c_Reader T.h_take G_take (hr.mono (by decide)) T.b_take .nil pass0))
        (pss_cons (ps_if (pt_cmpR op_notIn_seq (pv 1) (pe_glob rfl T.g_UNKNOWNS (show L2.RelV (V.ref a.uU) (Value.ref a.uU) from rfl)) (by with_unfolding_all rfl)) (pss_one (ps_raiseN T.exc rfl T.m_NoText)) pss_nil)
        (pss_one (ps_ret (pe_bm PySem.F.plainAttrs_tuple PySem.F.slot_tuple_index PySem.F.type_tuple_index mt_tindex3 (pe_glob rfl T.g_UNKNOWNS (show L2.RelV (V.ref a.uU) (Value.ref a.uU) from rfl)) (pa_cons (pv 1) pa_nil)))))), ?_⟩
    show (t_take_unknown_3 K a E 0 : TS) _ _ _
    first | refine methV rfl hp.at_ rfl ⟨x, b, p, rfl, hp, ?_⟩ | refine ⟨_, rfl, x.r, x.dx, _, rfl, hp.at_, rfl, x, b, p, rfl, hp, ?_⟩
    first | refine ⟨_, rfl, inS (T.t_UNKNOWNS _) rfl rfl (tk ?_)⟩ | refine ⟨_, rfl, a.uU, _, rfl, .inr (T.t_UNKNOWNS _), rfl, rfl, _, rfl, ?_⟩
    rcases in_unk (b.drop p) with ⟨iv, c, u, r, e, hu, epk, u3⟩ | ⟨iv, no⟩
    · refine ifBF (by rw [iv]; rfl) ?_
      refine ⟨.inr (.inl ⟨rfl, T.k_UNKNOWNS⟩), _, rfl, a.uU, 120, 121, 122, pk (b.drop p), u, rfl, rfl, T.t_UNKNOWNS _, by (first | lia | omega), ?_⟩
      exact k1 c u r e hu
    · refine ifB (by rw [iv]; rfl) ?_
      exact k2 no _ _
end
end WS
end
section
set_option Elab.async false
set_option linter.all false
set_option maxRecDepth 100000
set_option maxHeartbeats 1000000
namespace WS
open PySem PySem.Spec PyProof.Rows L2
open Sy15 (T Val put)
theorem pg_pair {X : Cx} {i j : Nat} {x y : Str} {k : Nat} {p1 p2 pos : Pos} (K : PySem.W.Frag) (hK : X.K = K) (hc : X.calm = true) (hN : X.N.Nodup) (hi : X.N[i]? = some x) (hj : X.N[j]? = some y) (hx : Loc X.env.scope x) (hy : Loc X.env.scope y)
    (hf : X.fn x = true ∨ X.env.scope.names.lookup x = some .local) (hg : X.fn y = true ∨ X.env.scope.names.lookup y = some .local) : PG X (.Tuple [.Name x p1, .Name y p2] k pos) (gTup K 2 (gCons (gName i) (gCons (gName j) gNil))) :=
  hK ▸ pg_tup hc (pgs_cons (pg_name hN hi hx hf) (pgs_cons (pg_name hN hj hy hg) pgs_nil))
def fl (fr : Nat → Bool) : List V := [.bl (fr 0), .bl (fr 1), .bl (fr 2)]
def SameRF (x : RA) (H H' : Hp) : Prop := ∀ c o, H c = some o → c ≠ x.r → c ≠ x.f → H' c = some o
theorem SameRF.trans {x : RA} {H H1 H2 : Hp} (h : SameRF x H H1) (g : SameRF x H1 H2) : SameRF x H H2 := fun c o e n m => g c o (h c o e n m) n m
theorem SameRF.mv {x : RA} {H H' : Hp} (h : SameRF x H H') (C : Addr) (p : Nat) : SameRF x H (x.mv C H' p) := fun c o e n m => by
  unfold RA.mv
  rw [upd_ne n]
  exact h c o e n m
theorem SqL.keep {K : PySem.W.Frag} {H H' : Hp} {t : Addr} {xs : List V} (k : ∀ o, H t = some o → (∃ ys, o = .lst ys ∨ ∃ ob, o = .frz ob (.lst ys)) → H' t = some o) (h : SqL K H t xs) : SqL K H' t xs := by
  rcases h with (h | ⟨ob, e⟩) | h
  · exact .inl (.inl (k _ h ⟨xs, .inl rfl⟩))
  · exact .inl (.inr ⟨ob, k _ e ⟨xs, .inr ⟨ob, rfl⟩⟩⟩)
  · exact .inr h
abbrev Waits (H : Hp) (ps : List Addr) (prs : List (Int × Int)) : Prop := Paired (fun p q => H p = some (HO.tup [.int q.1, .int q.2])) ps prs
structure RQ (K : PySem.W.Frag) (C : Addr) (H0 H : Hp) (x : RA) (b : List Nat) (p : Nat) (fr : Nat → Bool) (ps : List Addr) (prs : List (Int × Int)) : Prop where
  s0 : Same H0 H
  tx : SqL K H0 x.tx (bl b)
  nr : H0 x.r = none
  nf : H0 x.f = none
  at_ : H x.r = some (.ins C x.dx (x.fs p))
  hf : H x.f = some (.lst (fl fr))
  hw : H x.w = some (.lst (ps.map V.ref))
  ww : Waits H ps prs
  wf : x.w ≠ x.f
  wl : ps.length ≤ 1000
theorem RQ.rp {K : PySem.W.Frag} {C : Addr} {H0 H : Hp} {x : RA} {b : List Nat} {p : Nat} {fr : Nat → Bool} {ps : List Addr} {prs : List (Int × Int)} (h : RQ K C H0 H x b p fr ps prs) : RP K C H x b p := ⟨h.at_, h.s0.seq h.tx⟩
theorem RQ.keep {K : PySem.W.Frag} {C : Addr} {H0 H H' : Hp} {x : RA} {b : List Nat} {p p' : Nat} {fr fr' : Nat → Bool} {ps : List Addr} {prs : List (Int × Int)} (h : RQ K C H0 H x b p fr ps prs) (s : ∀ c o, H c = some o → c ≠ x.r → c ≠ x.f → (H0 c = some o ∨ c = x.w ∨ ∃ l, o = .tup l) → H' c = some o) (hr : H' x.r = some (.ins C x.dx (x.fs p'))) (hf : H' x.f = some (.lst (fl fr'))) : RQ K C H0 H' x b p' fr' ps prs :=
  ⟨fun c o e => s c o (h.s0 _ _ e) (ne_of_none e h.nr) (ne_of_none e h.nf) (.inl e), h.tx, h.nr, h.nf, hr, hf, s _ _ h.hw (ne_of h.hw h.at_ (by intro z; cases z)) h.wf (.inr (.inl rfl)),
    Paired.mapP h.ww fun q _ e => s _ _ e (ne_of e h.at_ (by intro z; cases z)) (ne_of e h.hf (by intro z; cases z)) (.inr (.inr ⟨_, rfl⟩)), h.wf, h.wl⟩
theorem SameRF.k {x : RA} {H0 H H' : Hp} (s : SameRF x H H') : ∀ c o, H c = some o → c ≠ x.r → c ≠ x.f → (H0 c = some o ∨ c = x.w ∨ ∃ l, o = .tup l) → H' c = some o := fun c o e n m _ => s c o e n m
theorem RQ.mv {K : PySem.W.Frag} {C : Addr} {H0 H : Hp} {x : RA} {b : List Nat} {p : Nat} {fr : Nat → Bool} {ps : List Addr} {prs : List (Int × Int)} (h : RQ K C H0 H x b p fr ps prs) (q : Nat) : RQ K C H0 (x.mv C H q) x b q fr ps prs :=
  h.keep (SameRF.mv (fun _ _ e _ _ => e) C q).k upd_same (by unfold RA.mv; rw [upd_ne (ne_of h.hf h.rp.at_ (by intro z; cases z))]; exact h.hf)
theorem SameRF.refl (x : RA) (H : Hp) : SameRF x H H := fun _ _ e _ _ => e
theorem Same.rf {H H' : Hp} (h : Same H H') (x : RA) : SameRF x H H' := fun c o e _ _ => h c o e
theorem RQ.same {K : PySem.W.Frag} {C : Addr} {H0 H H' : Hp} {x : RA} {b : List Nat} {p : Nat} {fr : Nat → Bool} {ps : List Addr} {prs : List (Int × Int)} (h : RQ K C H0 H x b p fr ps prs) (s : Same H H') : RQ K C H0 H' x b p fr ps prs :=
  h.keep (Same.rf s x).k (s _ _ h.rp.at_) (s _ _ h.hf)
abbrev AllE (C : Addr) (H0 : Hp) (x : RA) (E : XK) : Prop := ∀ c d H' p, Same H0 H' → H' x.r = some (.ins C x.dx (x.fs p)) → E c d H'
theorem AllE.at_ {K : PySem.W.Frag} {C : Addr} {H0 H : Hp} {x : RA} {b : List Nat} {p : Nat} {fr : Nat → Bool} {ps : List Addr} {prs : List (Int × Int)} {E : XK} {c d} (k : AllE C H0 x E) (h : RQ K C H0 H x b p fr ps prs) : E c d H := k c d H p h.s0 h.at_
theorem AllE.mv {K : PySem.W.Frag} {C : Addr} {H0 H : Hp} {x : RA} {b : List Nat} {p : Nat} {fr : Nat → Bool} {ps : List Addr} {prs : List (Int × Int)} {E : XK} (k : AllE C H0 x E) (h : RQ K C H0 H x b p fr ps prs) (q : Nat) : AtE E (x.mv C H q) := fun _ _ => AllE.at_ k (h.mv q)
def bP (prs : List (Int × Int)) (u : Nat) : Bool := prs.any fun q => decide (V.int q.2 = V.int (u : Nat))
def fU (fr : Nat → Bool) (prs : List (Int × Int)) (u : Nat) : Nat → Bool := fun k => fr k || (k == u && !bP prs u)
section
variable {P : Program} {w : World} {K : PySem.W.Frag} {mg : Str → Option Value} {base : Heap} {a : Adr}
def sp_read_unknown (K : PySem.W.Frag) (C : Addr) : Sp := fun vs H Q E => ∃ (H0 : Hp) (x : RA) (b : List Nat) (p : Nat) (fr : Nat → Bool) (ps : List Addr) (prs : List (Int × Int)), vs = [.ref x.r] ∧ RQ K C H0 H x b p fr ps prs ∧
  (∀ c u r H', b.drop p = c :: r → Sy15.unknown c = some u → RQ K C H0 H' x b (p + 1) (fU fr prs u) ps prs → SameRF x H H' → Q (.int (u : Nat)) H') ∧ ((∀ c u r, b.drop p = c :: r → Sy15.unknown c = some u → False) → AllE C H0 x E)
@[reducible] def t_read_unknown_0 (K : PySem.W.Frag) (a : Adr) (E : XK) (d : Nat) : TS := (tAsg (tC (.bl true)) (gSub (tFld K (tVar 0) "free") (tVar 1) rSetL))
@[reducible] def t_read_unknown_1 (K : PySem.W.Frag) (a : Adr) (E : XK) (d : Nat) : TS := tSeq (tIfS (tNot (L2.tB (tCB (rAny K) (tCons (tLc (iList K (tFld K (tVar 0) "waiting")) (gTup K 2 (gCons (gName 2) (gCons (gName 3) gNil))) tYes (tOp rEq (tVar 3) (tVar 1)) [2, 3]) tNil)))) (t_read_unknown_0 K a E d) tNext) (tRet (tVar 1))
@[reducible] def t_read_unknown_2 (K : PySem.W.Frag) (a : Adr) (E : XK) (d : Nat) : TS := tSeq (tAsg (tMeth a.C_Reader "take_unknown" (sp_take_unknown K a.C_Reader) [] E (tVar 0) tNil) (gName 1)) (t_read_unknown_1 K a E d)
theorem ok_read_unknown (T : Txt K mg a) : FnOk P w K mg base (CXN P w a.C_NoText) 4 a.f_read_unknown a.d_read_unknown ["self"] (sp_read_unknown K a.C_Reader) := by
  have G_take_unknown : FnOk P w K mg base (CXN P w a.C_NoText) 3 a.f_take_unknown a.d_take_unknown ["self"] (sp_take_unknown K a.C_Reader) := ok_take_unknown T
  refine Fun.okN T.f_read_unknown sc_read_unknown (fun vs H Q E h => ?_) (fun cdv A outer s H vs Q E hr h => ?_)
  · obtain ⟨H0, x, b, p, fr, ps, prs, rfl, _⟩ := h
    rfl
  · obtain ⟨H0, x, b, p, fr, ps, prs, rfl, hq, k1, k2⟩ := h
    refine ⟨_, (pss_cons (ps_set (i := 1) sc_read_unknown.nd rfl (Or.inr rfl) (pe_meth0 (pv 0) T.c_Reader T.h_take_unknown G_take_unknown (hr.mono (by decide)) T.b_take_unknown .nil passN))
        (pss_cons (ps_if (pt_not (pt_val (pe_callB (cr_any rfl) rfl T.n_any WS.boot_any (pa_cons (pe_lc rfl sc_read_unknown.nd (pi_list (pe_fld (pv 0) (by rfl))) (blkOk_by (own := [("sign", 2), ("bound", 3)]) (by rfl)) (fun _ _ _ _ _ => (pg_pair K rfl (i := 2) (j := 3) rfl sc_read_unknown.nd rfl rfl (Or.inl rfl) (Or.inl rfl) (Or.inr rfl) (Or.inr rfl))) (fun _ _ _ _ _ => pts_nil) (fun _ _ _ _ _ => (pe_cmpR op_eq (pv 3) (pv 1) (nomark _)))) pa_nil)))) (pss_one (ps_asg pe_bl (pg_sub (pe_fld (pv 0) (by rfl)) (pv 1) set_list))) pss_nil)
        (pss_one (ps_ret (pv 1))))), ?_⟩
    show (t_read_unknown_2 K a E 0 : TS) _ _ _
    first | refine methV rfl hq.rp.at_ rfl ⟨x, b, p, rfl, hq.rp, ?_, fun z => AllE.mv (k2 z) hq _⟩ | refine ⟨_, rfl, x.r, x.dx, _, rfl, hq.rp.at_, rfl, x, b, p, rfl, hq.rp, ?_, fun z => AllE.mv (k2 z) hq _⟩
    intro c u r hc hu
    have u3 : u < 3 := by have := unknown_some hu; (first | lia | omega)
    have h1 := hq.mv (p + 1)
    have s1 : SameRF x H (x.mv a.C_Reader H (p + 1)) := SameRF.mv (SameRF.refl x H) _ _
    generalize x.mv a.C_Reader H (p + 1) = H1 at h1 s1
    have k1 := fun H' => k1 c u r H' hc hu
    first | refine fldV rfl h1.rp.at_ T.c_Reader T.a_Reader_waiting rfl ⟨x.w, rfl, ⟨_, SqL.of h1.hw⟩, fun D hD => ?_⟩ | refine ⟨_, rfl, x.r, _, x.dx, _, _, rfl, h1.rp.at_, T.c_Reader, T.a_Reader_waiting, rfl, x.w, rfl, ⟨_, SqL.of h1.hw⟩, fun D hD => ?_⟩
    refine lc_list (K := K) (a := x.w) (xs := ps.map V.ref) (fun i H' => Same H1 H' ∧ H' D = some (.lst (((prs.take i).map fun q => decide (V.int q.2 = V.int (u : Nat))).map V.bl))) ⟨same_new hD, upd_same⟩ (fun i H' _ e => e.1.seq (SqL.of h1.hw)) ?_ ?_
    · rintro i y H' hy ⟨sm, hD'⟩
      obtain ⟨q, hqi, rfl⟩ : ∃ q, ps[i]? = some q ∧ y = V.ref q := by
        rw [List.getElem?_map] at hy
        cases e : ps[i]? with
        | none => rw [e] at hy; cases hy
        | some q => rw [e] at hy; exact ⟨q, rfl, (Option.some.inj hy).symm⟩
      obtain ⟨c', hci, htup⟩ := paired_get h1.ww hqi
      refine ⟨q, _, rfl, SqT.of (sm _ _ htup), rfl, _, _, rfl, _, _, rfl, rfl, ?_⟩
      refine ⟨rfl, ?_⟩
      refine ⟨_, rfl, _, rfl, rfl, _, hD', line_big (by rw [List.length_map, List.length_map, List.length_take]; have := Paired.length h1.ww; have := h1.wl; (first | lia | omega)), ?_, ?_⟩
      · intro c0 o0 e0
        rw [upd_ne (ne_of_none e0 hD)]
        exact sm _ _ e0
      · rw [upd_same, take_snoc hci, List.map_append, List.map_append]
        rfl
    · rintro H' ⟨sm, hD'⟩
      have e0 : prs.take (ps.map V.ref).length = prs := by
        rw [List.length_map, Paired.length h1.ww, List.take_length]
      rw [e0] at hD'
      have h2 := h1.same sm
      have s2 := s1.trans (Same.rf sm x)
      refine ⟨D, _, rfl, SqL.of hD', _, rfl, ?_⟩
      have eb : (prs.map fun q => decide (V.int q.2 = V.int (u : Nat))).any id = bP prs u := by
        unfold bP
        rw [List.any_map]
        rfl
      rw [eb]
      cases hb : bP prs u with
      | true =>
        refine ifBF rfl ⟨_, rfl, ?_⟩
        refine k1 H' ?_ s2
        have e1 : fU fr prs u = fr := by
          funext k
          unfold fU
          rw [hb]
          simp
        rw [e1]
        exact h2
      | false =>
        refine ifB rfl ?_
        first | refine fldV rfl h2.rp.at_ T.c_Reader T.a_Reader_free rfl ⟨_, rfl, x.f, _, _, u, rfl, rfl, h2.hf, ?_, ?_⟩ | refine ⟨_, rfl, x.r, _, x.dx, _, _, rfl, h2.rp.at_, T.c_Reader, T.a_Reader_free, rfl, _, rfl, x.f, _, _, u, rfl, rfl, h2.hf, ?_, ?_⟩
        · rcases lt3 u3 with rfl | rfl | rfl <;> rfl
        refine ⟨_, rfl, ?_⟩
        have es : (fl fr).set u (.bl true) = fl (fU fr prs u) := by
          unfold fl fU
          rw [hb]
          rcases lt3 u3 with rfl | rfl | rfl <;> simp
        rw [es]
        have s3 : SameRF x H' (upd H' x.f (.lst (fl (fU fr prs u)))) := fun c0 o0 e0 n m => by rw [upd_ne m]; exact e0
        refine k1 _ (h2.keep s3.k ?_ upd_same) (s2.trans s3)
        rw [upd_ne (ne_of h2.rp.at_ h2.hf (by intro z; cases z))]
        exact h2.rp.at_
def sl (s : Sy15.Sum) : List V := [.int (s.x : Nat), .int (s.y : Nat), .int (s.z : Nat), .int (s.c : Nat)]
def fS (fr : Nat → Bool) (prs : List (Int × Int)) (s : Sy15.Sum) : Nat → Bool := fun k => fr k || (s.has k && !bP prs k)
theorem fU_fS (fr : Nat → Bool) (prs : List (Int × Int)) {n u : Nat} (hn : 0 < n) (hu : u < 3) : fU fr prs u = fS fr prs (Sy15.times n u) := by
  have e : ∀ k, (Sy15.times n u).has k = (k == u) := by
    intro k
    have hn' : n ≠ 0 := by (first | lia | omega)
    rcases lt3 hu with rfl | rfl | rfl
    · simp [Sy15.times, Sy15.Sum.has, hn']
    · simp [Sy15.times, Sy15.Sum.has, hn']
    · simp [Sy15.times, Sy15.Sum.has, hn']
  funext k
  unfold fU fS
  rw [e]
  by_cases h : k = u
  · subst h; rfl
  · have : (k == u) = false := by simpa using h
    rw [this]
    rfl
theorem fS_add (fr : Nat → Bool) (prs : List (Int × Int)) (s t : Sy15.Sum) : fS (fS fr prs s) prs t = fS fr prs (s.add t) := by
  have e : ∀ k, (s.add t).has k = (s.has k || t.has k) := by
    intro k
    have q : ∀ m n : Nat, ((m + n) != 0) = ((m != 0) || (n != 0)) := by
      intro m n
      cases m <;> cases n <;> simp
    simp only [Sy15.Sum.has, Sy15.Sum.add, q]
    cases (k == 0) <;> cases (k == 1) <;> cases (k == 2) <;> cases (s.x != 0) <;> cases (s.y != 0) <;> cases (s.z != 0) <;> cases (t.x != 0) <;> cases (t.y != 0) <;> cases (t.z != 0) <;> rfl
  funext k
  unfold fS
  rw [e]
  cases fr k <;> cases s.has k <;> cases t.has k <;> cases bP prs k <;> rfl
theorem fS_z (fr : Nat → Bool) (prs : List (Int × Int)) (c : Nat) : fS fr prs ⟨0, 0, 0, c⟩ = fr := by
  funext k
  simp [fS, Sy15.Sum.has]
def SameRT (x : RA) (t : Addr) (H H' : Hp) : Prop := ∀ c o, H c = some o → c ≠ x.r → c ≠ x.f → c ≠ t → H' c = some o
theorem SameRF.rt {x : RA} {H H' : Hp} (h : SameRF x H H') (t : Addr) : SameRT x t H H' := fun c o e n m _ => h c o e n m
theorem SameRT.trans {x : RA} {t : Addr} {H H1 H2 : Hp} (h : SameRT x t H H1) (g : SameRT x t H1 H2) : SameRT x t H H2 := fun c o e n m l => g c o (h c o e n m l) n m l
structure Own (H0 : Hp) (x : RA) (H : Hp) (t : Addr) (s : Sy15.Sum) : Prop where
  at_ : H t = some (.lst (sl s))
  f : t ≠ x.f
  w : t ≠ x.w
  n : H0 t = none
theorem Own.keep {x : RA} {H0 H H' : Hp} {t : Addr} {s s' : Sy15.Sum} (h : Own H0 x H t s) (e : H' t = some (.lst (sl s'))) : Own H0 x H' t s' := ⟨e, h.f, h.w, h.n⟩
theorem Own.rf {K : PySem.W.Frag} {C : Addr} {x : RA} {b : List Nat} {p : Nat} {fr : Nat → Bool} {ps : List Addr} {prs : List (Int × Int)} {H0 H H' : Hp} {t : Addr} {s : Sy15.Sum} (h : Own H0 x H t s) (q : RQ K C H0 H x b p fr ps prs) (g : SameRF x H H') : Own H0 x H' t s :=
  h.keep (g _ _ h.at_ (ne_of h.at_ q.rp.at_ (by intro z; cases z)) h.f)
theorem RQ.put {K : PySem.W.Frag} {C : Addr} {x : RA} {b : List Nat} {p : Nat} {fr : Nat → Bool} {ps : List Addr} {prs : List (Int × Int)} {H0 H : Hp} {t : Addr} {s s' : Sy15.Sum} (q : RQ K C H0 H x b p fr ps prs) (h : Own H0 x H t s) :
    RQ K C H0 (upd H t (.lst (sl s'))) x b p fr ps prs ∧ Own H0 x (upd H t (.lst (sl s'))) t s' ∧ SameRT x t H (upd H t (.lst (sl s'))) := by
  have st : SameRT x t H (upd H t (.lst (sl s'))) := fun c o e _ _ l => by rw [upd_ne l]; exact e
  refine ⟨q.keep (fun c o e n m z => st c o e n m ?_) ?_ ?_, h.keep upd_same, st⟩
  · rcases z with z | rfl | ⟨l, rfl⟩
    · exact ne_of_none z h.n
    · exact h.w.symm
    · exact ne_of e h.at_ (by intro z; cases z)
  · rw [upd_ne (ne_of q.rp.at_ h.at_ (by intro z; cases z))]
    exact q.rp.at_
  · rw [upd_ne h.f.symm]
    exact q.hf
def sg (s : Sy15.Sum) (u : Nat) : Nat := if u = 0 then s.x else if u = 1 then s.y else if u = 2 then s.z else s.c
theorem sl_ix (s : Sy15.Sum) {u : Nat} (h : u < 4) : atI (sl s) (u : Int) = some (.int ((sg s u : Nat) : Int)) := by
  refine atI_nat ?_
  rcases (show u = 0 ∨ u = 1 ∨ u = 2 ∨ u = 3 by (first | lia | omega)) with rfl | rfl | rfl | rfl <;> rfl
theorem sl_ixN (s : Sy15.Sum) {u : Nat} (h : u < 4) : ixN (sl s).length (u : Int) = some u := by
  rcases (show u = 0 ∨ u = 1 ∨ u = 2 ∨ u = 3 by (first | lia | omega)) with rfl | rfl | rfl | rfl <;> rfl
theorem sl_set (s : Sy15.Sum) {u : Nat} (h : u < 3) (n : Nat) : (sl s).set u (.int (((sg s u : Nat) : Int) + ((n : Nat) : Int))) = sl (s.add (Sy15.times n u)) := by
  rcases lt3 h with rfl | rfl | rfl <;> simp [sl, sg, Sy15.Sum.add, Sy15.times]
theorem sl_set3 (s : Sy15.Sum) (n : Nat) : (sl s).set 3 (.int (((sg s 3 : Nat) : Int) + ((n : Nat) : Int))) = sl (s.add ⟨0, 0, 0, n⟩) := by
  simp [sl, sg, Sy15.Sum.add]
theorem drop1 {b : List Nat} {p c : Nat} {r : List Nat} (h : b.drop p = c :: r) : b.drop (p + 1) = r := by
  rw [← List.drop_drop, h]
  rfl
theorem partM_u {c u : Nat} (r : List Nat) (h : Sy15.unknown c = some u) : partM (c :: r) = some (Sy15.times 1 u, r) := by simp only [partM, h]
theorem partM_0 {c : Nat} (r : List Nat) (h : Sy15.unknown c = none) (d : Sy15.digit c = some 0) : partM (c :: r) = some (⟨0, 0, 0, 0⟩, r) := by
  simp only [partM, h, d]
  rfl
theorem partM_ku {c k e u : Nat} (r : List Nat) (h : Sy15.unknown c = none) (d : Sy15.digit c = some k) (hk : ¬ k = 0) (hu : Sy15.unknown e = some u) : partM (c :: e :: r) = some (Sy15.times k u, r) := by
  simp only [partM, h, d, if_neg hk, hu]
theorem partM_kd {c k e j : Nat} (r : List Nat) (h : Sy15.unknown c = none) (d : Sy15.digit c = some k) (hk : ¬ k = 0) (hu : Sy15.unknown e = none) (hj : Sy15.digit e = some j) : partM (c :: e :: r) = some (⟨0, 0, 0, 10 * k + j⟩, r) := by
  simp only [partM, h, d, if_neg hk, hu, hj]
theorem partM_k {c k : Nat} (r : List Nat) (h : Sy15.unknown c = none) (d : Sy15.digit c = some k) (hk : ¬ k = 0) (hn : ∀ e q, r = e :: q → Sy15.unknown e = none ∧ Sy15.digit e = none) : partM (c :: r) = some (⟨0, 0, 0, k⟩, r) := by
  cases r with
  | nil => simp only [partM, h, d, if_neg hk]
  | cons e q =>
    obtain ⟨h1, h2⟩ := hn e q rfl
    simp only [partM, h, d, if_neg hk, h1, h2]
def sp_read_part (K : PySem.W.Frag) (C : Addr) : Sp := fun vs H Q E => ∃ (H0 : Hp) (x : RA) (b : List Nat) (p : Nat) (fr : Nat → Bool) (ps : List Addr) (prs : List (Int × Int)) (t : Addr) (s : Sy15.Sum), vs = [.ref x.r, .ref t] ∧ RQ K C H0 H x b p fr ps prs ∧ Own H0 x H t s ∧
  (∀ a' r p' H', partM (b.drop p) = some (a', r) → b.drop p' = r → RQ K C H0 H' x b p' (fS fr prs a') ps prs → Own H0 x H' t (s.add a') → SameRT x t H H' → Q .non H') ∧ (partM (b.drop p) = none → AllE C H0 x E)
@[reducible] def t_read_part_0 (K : PySem.W.Frag) (a : Adr) (E : XK) (d : Nat) : TS := (tAugS (tVar 1) (tC (.int (3))) (tVar 2) (rIxL K) (ipI fun i j => i + j) rSetL)
@[reducible] def t_read_part_1 (K : PySem.W.Frag) (a : Adr) (E : XK) (d : Nat) : TS := (tAsg (tOp (rI0 fun i j => .int (i + j)) (tOp (rI CMul fun i j => .int (i * j)) (tC (.int 10)) (tVar 2)) (tMeth a.C_Reader "take_digit" (sp_take_digit K a.C_Reader) [] E (tVar 0) (tCons (tC (.int 0)) (tCons (tC (.int 9)) tNil)))) (gName 2))
@[reducible] def t_read_part_2 (K : PySem.W.Frag) (a : Adr) (E : XK) (d : Nat) : TS := tSeq (tIfS (tAnd (tTest (tOp (rI0 fun i j => .bl (decide (j < i))) (tVar 2) (tC (.int 0)))) (tTest (tChain (rI0 fun i j => .bl (decide (i ≤ j))) (rI0 fun i j => .bl (decide (i ≤ j))) (tC (.int (48))) (tMeth a.C_Reader "peek" (sp_peek K a.C_Reader) [] E0 (tVar 0) tNil) (tOp (rI0 fun i j => .int (i + j)) (tC (.int (48))) (tC (.int 9)))))) (t_read_part_1 K a E d) tNext) (t_read_part_0 K a E d)
@[reducible] def t_read_part_3 (K : PySem.W.Frag) (a : Adr) (E : XK) (d : Nat) : TS := tSeq (tAugS (tVar 1) (tVar 3) (tVar 2) (rIxL K) (ipI fun i j => i + j) rSetL) tRetN
@[reducible] def t_read_part_4 (K : PySem.W.Frag) (a : Adr) (E : XK) (d : Nat) : TS := tSeq (tAsg (tMeth a.C_Reader "read_unknown" (sp_read_unknown K a.C_Reader) [] E (tVar 0) tNil) (gName 3)) (t_read_part_3 K a E d)
@[reducible] def t_read_part_5 (K : PySem.W.Frag) (a : Adr) (E : XK) (d : Nat) : TS := tSeq (tIfS (tAnd (tTest (tOp (rI0 fun i j => .bl (decide (j < i))) (tVar 2) (tC (.int 0)))) (tTest (tOp (rIn K false) (tMeth a.C_Reader "peek" (sp_peek K a.C_Reader) [] E0 (tVar 0) tNil) (tC (.ref a.uU))))) (t_read_part_4 K a E d) tNext) (t_read_part_2 K a E d)
@[reducible] def t_read_part_6 (K : PySem.W.Frag) (a : Adr) (E : XK) (d : Nat) : TS := tSeq (tAsg (tIf (tTest (tOp (rIn K false) (tMeth a.C_Reader "peek" (sp_peek K a.C_Reader) [] E0 (tVar 0) tNil) (tC (.ref a.uU)))) (tC (.int 1)) (tMeth a.C_Reader "take_digit" (sp_take_digit K a.C_Reader) [] E (tVar 0) (tCons (tC (.int 0)) (tCons (tC (.int 9)) tNil)))) (gName 2)) (t_read_part_5 K a E d)
theorem ok_read_part (T : Txt K mg a) : FnOk P w K mg base (CXN P w a.C_NoText) 5 a.f_read_part a.d_read_part ["self", "total"] (sp_read_part K a.C_Reader) := by
  have G_peek : FnOk P w K mg base CX0 1 a.f_peek a.d_peek ["self"] (sp_peek K a.C_Reader) := ok_peek T
  have G_take_digit : FnOk P w K mg base (CXN P w a.C_NoText) 3 a.f_take_digit a.d_take_digit ["self", "lowest", "highest"] (sp_take_digit K a.C_Reader) := ok_take_digit T
  have G_read_unknown : FnOk P w K mg base (CXN P w a.C_NoText) 4 a.f_read_unknown a.d_read_unknown ["self"] (sp_read_unknown K a.C_Reader) := ok_read_unknown T
  refine Fun.okN T.f_read_part sc_read_part (fun vs H Q E h => ?_) (fun cdv A outer s H vs Q E hr h => ?_)
  · obtain ⟨H0, x, b, p, fr, ps, prs, t, s, rfl, _⟩ := h
    rfl
  · obtain ⟨H0, x, b, p, fr, ps, prs, t, sm, rfl, hq, ho, k1, k2⟩ := h
    refine ⟨_, (pss_cons (ps_set (i := 2) sc_read_part.nd rfl (Or.inl rfl) (pe_ifExp (pt_cmpR op_in_seq (pe_meth0 (pv 0) T.c_Reader T.h_peek G_peek (hr.mono (by decide)) T.b_peek .nil pass0) (pe_glob rfl T.g_UNKNOWNS (show L2.RelV (V.ref a.uU) (Value.ref a.uU) from rfl)) (by with_unfolding_all rfl)) pe_int (pe_meth (pv 0) T.c_Reader T.h_take_digit G_take_digit (hr.mono (by decide)) T.b_take_digit .nil passN (pa_cons pe_int (pa_cons pe_int pa_nil)))))
        (pss_cons (ps_if (PW.pt (pw_and (pt_cmpR op_gt (pv 2) pe_int (nomark _)) (pw_and1 (pt_cmpR op_in_seq (pe_meth0 (pv 0) T.c_Reader T.h_peek G_peek (hr.mono (by decide)) T.b_peek .nil pass0) (pe_glob rfl T.g_UNKNOWNS (show L2.RelV (V.ref a.uU) (Value.ref a.uU) from rfl)) (by with_unfolding_all rfl))))) (pss_cons (ps_set (i := 3) sc_read_part.nd rfl (Or.inl rfl) (pe_meth0 (pv 0) T.c_Reader T.h_read_unknown G_read_unknown (hr.mono (by decide)) T.b_read_unknown .nil passN))
        (pss_cons (ps_augS (pv 1) (pv 3) get_list (pv 2) ip_add set_list)
        (pss_one ps_retN))) pss_nil)
        (pss_cons (ps_if (PW.pt (pw_and (pt_cmpR op_gt (pv 2) pe_int (nomark _)) (pw_and1 (pt_chain op_le op_le (pe_gint rfl T.g_ZERO) (pe_meth0 (pv 0) T.c_Reader T.h_peek G_peek (hr.mono (by decide)) T.b_peek .nil pass0) (pe_op op_add (pe_gint rfl T.g_ZERO) pe_int))))) (pss_one (ps_set (i := 2) sc_read_part.nd rfl (Or.inl rfl) (pe_op op_add (pe_op op_mul pe_int (pv 2)) (pe_meth (pv 0) T.c_Reader T.h_take_digit G_take_digit (hr.mono (by decide)) T.b_take_digit .nil passN (pa_cons pe_int (pa_cons pe_int pa_nil)))))) pss_nil)
        (pss_one (ps_augS (pv 1) (pe_gint rfl T.g_NUMBER) get_list (pv 2) ip_add set_list))))), ?_⟩
    show (t_read_part_6 K a E 0 : TS) _ _ _
    first | refine methV rfl hq.rp.at_ rfl ⟨x, b, p, rfl, hq.rp, ?_⟩ | refine ⟨_, rfl, x.r, x.dx, _, rfl, hq.rp.at_, rfl, x, b, p, rfl, hq.rp, ?_⟩
    first | refine inS (T.t_UNKNOWNS _) rfl rfl (tk ?_) | refine ⟨a.uU, _, rfl, .inr (T.t_UNKNOWNS _), rfl, rfl, _, rfl, ?_⟩
    rcases in_unk (b.drop p) with ⟨iv, c, u, r, e, hu, epk, u3⟩ | ⟨iv, no⟩
    · refine ifB iv ?_
      first | refine ⟨_, rfl, i2 (tk (ifT (by (first | lia | omega)) ?_))⟩ | refine ⟨_, rfl, _, _, rfl, rfl, _, rfl, ifT (by (first | lia | omega)) ?_⟩
      first | refine methV rfl hq.rp.at_ rfl ⟨x, b, p, rfl, hq.rp, inS (T.t_UNKNOWNS _) rfl rfl (tk (ifB iv ?_))⟩ | refine ⟨_, rfl, x.r, x.dx, _, rfl, hq.rp.at_, rfl, x, b, p, rfl, hq.rp, a.uU, _, rfl, .inr (T.t_UNKNOWNS _), rfl, rfl, _, rfl, ifB iv ?_⟩
      first | refine methV rfl hq.rp.at_ rfl ⟨H0, x, b, p, fr, ps, prs, rfl, hq, ?_, ?_⟩ | refine ⟨_, rfl, x.r, x.dx, _, rfl, hq.rp.at_, rfl, H0, x, b, p, fr, ps, prs, rfl, hq, ?_, ?_⟩
      · intro c' u' r' H2 e' hu' h2 s2
        rw [e] at e'
        cases e'
        rw [hu] at hu'
        cases hu'
        have o2 := ho.rf hq s2
        first | refine ⟨_, rfl, _, rfl, ixL (SqL.of o2.at_) (sl_ix _ (by (first | lia | omega))) ⟨_, rfl, i2p ⟨t, _, _, u, rfl, rfl, o2.at_, sl_ixN _ (by (first | lia | omega)), ?_⟩⟩⟩ | refine ⟨_, rfl, _, rfl, t, _, _, _, rfl, rfl, SqL.of o2.at_, sl_ix _ (by (first | lia | omega)), _, rfl, _, _, rfl, rfl, t, _, _, u, rfl, rfl, o2.at_, sl_ixN _ (by (first | lia | omega)), ?_⟩
        have es := sl_set sm u3 1
        have pu := h2.put (s' := sm.add (Sy15.times 1 u)) o2
        rw [← es] at pu
        refine k1 (Sy15.times 1 u) r (p + 1) _ (by rw [e]; exact partM_u r hu) (drop1 e) ?_ ?_ ((((SameRF.refl x H).rt t).trans (s2.rt t)).trans pu.2.2)
        · rw [← fU_fS fr prs (by (first | lia | omega)) u3]
          exact pu.1
        · exact ⟨pu.2.1.at_, ho.f, ho.w, ho.n⟩
      · intro no
        exact absurd hu (fun z => no _ _ _ e z)
    · refine ifBF iv ?_
      have unk : ∀ c r, b.drop p = c :: r → Sy15.unknown c = none := fun c r e => by
        cases h : Sy15.unknown c with
        | none => rfl
        | some u => exact (no c u r e h).elim
      first | refine methV rfl hq.rp.at_ rfl ⟨x, b, p, 0, 9, rfl, by decide, by decide, hq.rp, ?_, ?_⟩ | refine ⟨_, rfl, x.r, x.dx, _, rfl, hq.rp.at_, rfl, x, b, p, 0, 9, rfl, by decide, by decide, hq.rp, ?_, ?_⟩
      · intro c k r e hd _ _
        have hun := unk c r e
        have e1 := drop1 e
        have h1 := hq.mv (p + 1)
        have s1 : SameRF x H (x.mv a.C_Reader H (p + 1)) := SameRF.mv (SameRF.refl x H) _ _
        have o1 := ho.rf hq s1
        generalize x.mv a.C_Reader H (p + 1) = H1 at h1 s1 o1
        have last : ∀ (n p2 : Nat) (r2 : List Nat) (H2 : Hp), partM (b.drop p) = some (⟨0, 0, 0, n⟩, r2) → b.drop p2 = r2 → RQ K a.C_Reader H0 H2 x b p2 fr ps prs → Own H0 x H2 t sm → SameRT x t H H2 → Q .non (upd H2 t (.lst ((sl sm).set 3 (.int (((sg sm 3 : Nat) : Int) + ((n : Nat) : Int)))))) := by
          intro n p2 r2 H2 pm er h2 o2 s2
          rw [sl_set3]
          have pu := h2.put (s' := sm.add ⟨0, 0, 0, n⟩) o2
          refine k1 _ r2 p2 _ pm er ?_ pu.2.1 (s2.trans pu.2.2)
          rw [fS_z]
          exact pu.1
        by_cases hk : k = 0
        · subst hk
          first | refine ⟨_, rfl, i2 (tk (ifF (by decide) ?_))⟩ | refine ⟨_, rfl, _, _, rfl, rfl, _, rfl, ifF (by decide) ?_⟩
          first | refine ⟨_, rfl, i2 (tk (ifF (by decide) ?_))⟩ | refine ⟨_, rfl, _, _, rfl, rfl, _, rfl, ifF (by decide) ?_⟩
          first | refine ⟨_, rfl, ixL (SqL.of o1.at_) (sl_ix (u := 3) _ (by (first | lia | omega))) ⟨_, rfl, i2p ⟨t, _, _, 3, rfl, rfl, o1.at_, sl_ixN (u := 3) _ (by (first | lia | omega)), ?_⟩⟩⟩ | refine ⟨_, rfl, t, _, _, _, rfl, rfl, SqL.of o1.at_, sl_ix (u := 3) _ (by (first | lia | omega)), _, rfl, _, _, rfl, rfl, t, _, _, 3, rfl, rfl, o1.at_, sl_ixN (u := 3) _ (by (first | lia | omega)), ?_⟩
          exact last 0 (p + 1) r H1 (by rw [e]; exact partM_0 r hun hd) e1 h1 o1 (s1.rt t)
        · rcases in_unk (b.drop (p + 1)) with ⟨iv2, c2, u, r2, e2, hu2, epk, u3⟩ | ⟨iv2, no2⟩
          · have e3 : r = c2 :: r2 := by rw [← e1, e2]
            first | refine ⟨_, rfl, i2 (tk (ifT (by (first | lia | omega)) ?_))⟩ | refine ⟨_, rfl, _, _, rfl, rfl, _, rfl, ifT (by (first | lia | omega)) ?_⟩
            first | refine methV rfl h1.rp.at_ rfl ⟨x, b, (p + 1), rfl, h1.rp, inS (T.t_UNKNOWNS _) rfl rfl (tk (ifB iv2 ?_))⟩ | refine ⟨_, rfl, x.r, x.dx, _, rfl, h1.rp.at_, rfl, x, b, (p + 1), rfl, h1.rp, a.uU, _, rfl, .inr (T.t_UNKNOWNS _), rfl, rfl, _, rfl, ifB iv2 ?_⟩
            first | refine methV rfl h1.rp.at_ rfl ⟨H0, x, b, (p + 1), fr, ps, prs, rfl, h1, ?_, ?_⟩ | refine ⟨_, rfl, x.r, x.dx, _, rfl, h1.rp.at_, rfl, H0, x, b, (p + 1), fr, ps, prs, rfl, h1, ?_, ?_⟩
            · intro c' u' r' H2 e' hu' h2 s2
              rw [e2] at e'
              cases e'
              rw [hu2] at hu'
              cases hu'
              have o2 := o1.rf h1 s2
              first | refine ⟨_, rfl, _, rfl, ixL (SqL.of o2.at_) (sl_ix _ (by (first | lia | omega))) ⟨_, rfl, i2p ⟨t, _, _, u, rfl, rfl, o2.at_, sl_ixN _ (by (first | lia | omega)), ?_⟩⟩⟩ | refine ⟨_, rfl, _, rfl, t, _, _, _, rfl, rfl, SqL.of o2.at_, sl_ix _ (by (first | lia | omega)), _, rfl, _, _, rfl, rfl, t, _, _, u, rfl, rfl, o2.at_, sl_ixN _ (by (first | lia | omega)), ?_⟩
              have es := sl_set sm u3 k
              have pu := h2.put (s' := sm.add (Sy15.times k u)) o2
              rw [← es] at pu
              refine k1 (Sy15.times k u) r2 ((p + 1) + 1) _ (by rw [e, e3]; exact partM_ku r2 hun hd hk hu2) (drop1 e2) ?_ ?_ (((s1.rt t).trans (s2.rt t)).trans pu.2.2)
              · rw [← fU_fS fr prs (by (first | lia | omega)) u3]
                exact pu.1
              · exact ⟨pu.2.1.at_, ho.f, ho.w, ho.n⟩
            · intro no
              exact absurd hu2 (fun z => no _ _ _ e2 z)
          · first | refine ⟨_, rfl, i2 (tk (ifT (by (first | lia | omega)) ?_))⟩ | refine ⟨_, rfl, _, _, rfl, rfl, _, rfl, ifT (by (first | lia | omega)) ?_⟩
            first | refine methV rfl h1.rp.at_ rfl ⟨x, b, p + 1, rfl, h1.rp, inS (T.t_UNKNOWNS _) rfl rfl (tk (ifBF iv2 ?_))⟩ | refine ⟨_, rfl, x.r, x.dx, _, rfl, h1.rp.at_, rfl, x, b, p + 1, rfl, h1.rp, a.uU, _, rfl, .inr (T.t_UNKNOWNS _), rfl, rfl, _, rfl, ifBF iv2 ?_⟩
            first | refine ⟨_, rfl, i2 (tk (ifT (by (first | lia | omega)) ?_))⟩ | refine ⟨_, rfl, _, _, rfl, rfl, _, rfl, ifT (by (first | lia | omega)) ?_⟩
            have unk2 : ∀ c r, b.drop (p + 1) = c :: r → Sy15.unknown c = none := fun c r e => by
              cases h : Sy15.unknown c with
              | none => rfl
              | some u => exact (no2 c u r e h).elim
            first | refine methV rfl h1.rp.at_ rfl ⟨x, b, p + 1, rfl, h1.rp, ?_⟩ | refine ⟨_, rfl, x.r, x.dx, _, rfl, h1.rp.at_, rfl, x, b, p + 1, rfl, h1.rp, ?_⟩
            first | refine i2 ?_ | refine ⟨_, _, rfl, rfl, ?_⟩
            refine ⟨_, rfl, ?_⟩
            by_cases g1 : (48 : Int) ≤ pk (b.drop (p + 1))
            · refine ifT g1 ?_
              first | refine i2 (i2 ⟨_, rfl, ?_⟩) | refine ⟨_, _, rfl, rfl, _, _, rfl, rfl, _, rfl, ?_⟩
              by_cases g2 : pk (b.drop (p + 1)) ≤ 48 + 9
              · refine ifT g2 ?_
                first | refine ⟨_, rfl, i2c (.inl ⟨by (first | lia | omega), by (first | lia | omega)⟩) ?_⟩ | refine ⟨_, rfl, _, _, rfl, rfl, .inl ⟨by (first | lia | omega), by (first | lia | omega)⟩, ?_⟩
                first | refine methV rfl h1.rp.at_ rfl ⟨x, b, p + 1, 0, 9, rfl, by decide, by decide, h1.rp, ?_, ?_⟩ | refine ⟨_, rfl, x.r, x.dx, _, rfl, h1.rp.at_, rfl, x, b, p + 1, 0, 9, rfl, by decide, by decide, h1.rp, ?_, ?_⟩
                · intro c2 j r2 e2 hj _ _
                  have hun2 := unk2 c2 r2 e2
                  have e3 : r = c2 :: r2 := by rw [← e1, e2]
                  have h2 := h1.mv (p + 1 + 1)
                  have s2 : SameRF x H1 (x.mv a.C_Reader H1 (p + 1 + 1)) := SameRF.mv (SameRF.refl x H1) _ _
                  have o2 := o1.rf h1 s2
                  generalize x.mv a.C_Reader H1 (p + 1 + 1) = H2 at h2 s2 o2
                  first | refine i2 ?_ | refine ⟨_, _, rfl, rfl, ?_⟩
                  first | refine ⟨_, rfl, ixL (SqL.of o2.at_) (sl_ix (u := 3) _ (by (first | lia | omega))) ⟨_, rfl, i2p ⟨t, _, _, 3, rfl, rfl, o2.at_, sl_ixN (u := 3) _ (by (first | lia | omega)), ?_⟩⟩⟩ | refine ⟨_, rfl, t, _, _, _, rfl, rfl, SqL.of o2.at_, sl_ix (u := 3) _ (by (first | lia | omega)), _, rfl, _, _, rfl, rfl, t, _, _, 3, rfl, rfl, o2.at_, sl_ixN (u := 3) _ (by (first | lia | omega)), ?_⟩
                  have := last (10 * k + j) (p + 1 + 1) r2 H2 (by rw [e, e3]; exact partM_kd r2 hun hd hk hun2 hj) (drop1 e2) h2 o2 ((s1.trans s2).rt t)
                  have ec : ((10 * k + j : Nat) : Int) = 10 * ((k : Nat) : Int) + ((j : Nat) : Int) := by (first | lia | omega)
                  rw [ec] at this
                  exact this
                · intro nod
                  obtain ⟨r2, e2⟩ := pk_eq (l := b.drop (p + 1)) (c := (pk (b.drop (p + 1))).toNat) (by (first | lia | omega))
                  refine (nod _ ((pk (b.drop (p + 1))).toNat - 48) r2 e2 ?_ (by (first | lia | omega)) (by (first | lia | omega))).elim
                  unfold Sy15.digit
                  rw [if_pos (by (first | lia | omega))]
              · refine ifF g2 ?_
                first | refine ⟨_, rfl, ixL (SqL.of o1.at_) (sl_ix (u := 3) _ (by (first | lia | omega))) ⟨_, rfl, i2p ⟨t, _, _, 3, rfl, rfl, o1.at_, sl_ixN (u := 3) _ (by (first | lia | omega)), ?_⟩⟩⟩ | refine ⟨_, rfl, t, _, _, _, rfl, rfl, SqL.of o1.at_, sl_ix (u := 3) _ (by (first | lia | omega)), _, rfl, _, _, rfl, rfl, t, _, _, 3, rfl, rfl, o1.at_, sl_ixN (u := 3) _ (by (first | lia | omega)), ?_⟩
                refine last k (p + 1) r H1 ?_ e1 h1 o1 (s1.rt t)
                rw [e]
                refine partM_k r hun hd hk fun e' q' z => ⟨unk2 e' q' (e1.trans z), ?_⟩
                unfold Sy15.digit
                rw [e1, z] at g2
                have e2 : pk (e' :: q') = ((e' : Nat) : Int) := rfl
                rw [e2] at g2
                rw [if_neg (by (first | lia | omega))]
            · refine ifF g1 ?_
              first | refine tk (ifBF rfl ?_) | refine ⟨_, rfl, ifBF rfl ?_⟩
              first | refine ⟨_, rfl, ixL (SqL.of o1.at_) (sl_ix (u := 3) _ (by (first | lia | omega))) ⟨_, rfl, i2p ⟨t, _, _, 3, rfl, rfl, o1.at_, sl_ixN (u := 3) _ (by (first | lia | omega)), ?_⟩⟩⟩ | refine ⟨_, rfl, t, _, _, _, rfl, rfl, SqL.of o1.at_, sl_ix (u := 3) _ (by (first | lia | omega)), _, rfl, _, _, rfl, rfl, t, _, _, 3, rfl, rfl, o1.at_, sl_ixN (u := 3) _ (by (first | lia | omega)), ?_⟩
              refine last k (p + 1) r H1 ?_ e1 h1 o1 (s1.rt t)
              rw [e]
              refine partM_k r hun hd hk fun e' q' z => ⟨unk2 e' q' (e1.trans z), ?_⟩
              unfold Sy15.digit
              rw [e1, z] at g1
              have e2 : pk (e' :: q') = ((e' : Nat) : Int) := rfl
              rw [e2] at g1
              rw [if_neg (by (first | lia | omega))]
      · intro nod
        refine AllE.mv (k2 ?_) hq _
        cases hl : b.drop p with
        | nil => rfl
        | cons c r =>
          unfold partM
          simp only [unk c r hl]
          cases hd : Sy15.digit c with
          | none => rfl
          | some k =>
            have := digit_some hd
            exact (nod c k r hl hd (by (first | lia | omega)) (by (first | lia | omega))).elim
end
end WS
end
section
set_option Elab.async false
set_option linter.all false
set_option maxRecDepth 100000
set_option maxHeartbeats 1000000
namespace WS
open PySem PySem.Spec PyProof.Rows L2
open Sy15 (T Val put)
section
variable {P : Program} {w : World} {K : PySem.W.Frag} {mg : Str → Option Value} {base : Heap} {a : Adr}
def sp_read_sum (K : PySem.W.Frag) (C : Addr) : Sp := fun vs H Q E => ∃ (H0 : Hp) (x : RA) (b : List Nat) (p : Nat) (fr : Nat → Bool) (ps : List Addr) (prs : List (Int × Int)), vs = [.ref x.r] ∧ RQ K C H0 H x b p fr ps prs ∧
  (∀ a' r p' t H', sumM (b.drop p) = some (a', r) → b.drop p' = r → RQ K C H0 H' x b p' (fS fr prs a') ps prs → H t = none → H' t = some (.lst (sl a')) → SameRF x H H' → Q (.ref t) H') ∧ (sumM (b.drop p) = none → AllE C H0 x E)
@[reducible] def t_read_sum_0 (K : PySem.W.Frag) (a : Adr) (E : XK) (d : Nat) : TS := (tDrop (tMeth a.C_Reader "read_part" (sp_read_part K a.C_Reader) [] E (tVar 0) (tCons (tVar 1) tNil)))
@[reducible] def t_read_sum_1 (K : PySem.W.Frag) (a : Adr) (E : XK) (d : Nat) : TS := tSeq (tDrop (tMeth a.C_Reader "take" (sp_take K a.C_Reader) [] E0 (tVar 0) tNil)) (t_read_sum_0 K a E d)
@[reducible] def t_read_sum_2 (K : PySem.W.Frag) (a : Adr) (E : XK) (d : Nat) : TS := tSeq (tWhile (tTest (tOp rEq (tMeth a.C_Reader "peek" (sp_peek K a.C_Reader) [] E0 (tVar 0) tNil) (tC (.int (43))))) (t_read_sum_1 K a E d)) (tRet (tVar 1))
@[reducible] def t_read_sum_3 (K : PySem.W.Frag) (a : Adr) (E : XK) (d : Nat) : TS := tSeq (tDrop (tMeth a.C_Reader "read_part" (sp_read_part K a.C_Reader) [] E (tVar 0) (tCons (tVar 1) tNil))) (t_read_sum_2 K a E d)
@[reducible] def t_read_sum_4 (K : PySem.W.Frag) (a : Adr) (E : XK) (d : Nat) : TS := tSeq (tAsg (tLst (tCons (tC (.int 0)) (tCons (tC (.int 0)) (tCons (tC (.int 0)) (tCons (tC (.int 0)) tNil))))) (gName 1)) (t_read_sum_3 K a E d)
theorem ok_read_sum (T : Txt K mg a) : FnOk P w K mg base (CXN P w a.C_NoText) 6 a.f_read_sum a.d_read_sum ["self"] (sp_read_sum K a.C_Reader) := by
  have G_peek : FnOk P w K mg base CX0 1 a.f_peek a.d_peek ["self"] (sp_peek K a.C_Reader) := ok_peek T
  have G_take : FnOk P w K mg base CX0 2 a.f_take a.d_take ["self"] (sp_take K a.C_Reader) := ok_take T
  have G_read_part : FnOk P w K mg base (CXN P w a.C_NoText) 5 a.f_read_part a.d_read_part ["self", "total"] (sp_read_part K a.C_Reader) := ok_read_part T
  refine Fun.okN T.f_read_sum sc_read_sum (fun vs H Q E h => ?_) (fun cdv A outer s H vs Q E hr h => ?_)
  · obtain ⟨H0, x, b, p, fr, ps, prs, rfl, _⟩ := h
    rfl
  · obtain ⟨H0, x, b, p, fr, ps, prs, rfl, hq, k1, k2⟩ := h
    refine ⟨_, (pss_cons (ps_set (i := 1) sc_read_sum.nd rfl (Or.inl rfl) (pe_lst (pa_cons pe_int (pa_cons pe_int (pa_cons pe_int (pa_cons pe_int pa_nil))))))
        (pss_cons (ps_expr (pe_meth (pv 0) T.c_Reader T.h_read_part G_read_part (hr.mono (by decide)) T.b_read_part .nil passN (pa_cons (pv 1) pa_nil)))
        (pss_cons (ps_while PassesOwn.leaving (pt_cmpR op_eq (pe_meth0 (pv 0) T.c_Reader T.h_peek G_peek (hr.mono (by decide)) T.b_peek .nil pass0) (pe_gint rfl T.g_PLUS) (nomark _)) (pss_cons (ps_expr (pe_meth0 (pv 0) T.c_Reader T.h_take G_take (hr.mono (by decide)) T.b_take .nil pass0))
        (pss_one (ps_expr (pe_meth (pv 0) T.c_Reader T.h_read_part G_read_part (hr.mono (by decide)) T.b_read_part .nil passN (pa_cons (pv 1) pa_nil))))))
        (pss_one (ps_ret (pv 1)))))), ?_⟩
    show (t_read_sum_4 K a E 0 : TS) _ _ _
    refine ⟨by show 4 ≤ sizeLine; decide, fun t ht => ?_⟩
    have s1 : Same H (upd H t (.lst [.int 0, .int 0, .int 0, .int 0])) := same_new ht
    have h1 := hq.same s1
    have o1 : Own H0 x (upd H t (.lst [.int 0, .int 0, .int 0, .int 0])) t zSum := ⟨upd_same, Ne.symm (ne_of_none hq.hf ht), Ne.symm (ne_of_none hq.hw ht), hq.s0.free ht⟩
    generalize upd H t (.lst [.int 0, .int 0, .int 0, .int 0]) = H1 at s1 h1 o1
    first | refine methV rfl h1.at_ rfl ⟨_, rfl, H0, x, b, p, fr, ps, prs, t, zSum, rfl, h1, o1, ?_, ?_⟩ | refine ⟨_, rfl, x.r, x.dx, _, rfl, h1.at_, rfl, _, rfl, H0, x, b, p, fr, ps, prs, t, zSum, rfl, h1, o1, ?_, ?_⟩
    · intro a1 r1 p1 H2 pm e1 h2 o2 s2
      rw [zadd] at o2
      have sr : SameRF x H H2 := fun c o e n m => s2 c o (s1 _ _ e) n m (ne_of_none e ht)
      have hs : sumM (b.drop p) = more a1 r1 := by rw [sumM_eq, pm]
      refine ⟨fun c σ H' => σ = [some (.ref x.r), some (.ref t)] ∧ ∃ acc l p', l.length = c ∧ b.drop p' = l ∧ RQ K a.C_Reader H0 H' x b p' (fS fr prs acc) ps prs ∧ Own H0 x H' t acc ∧ SameRF x H H' ∧ sumM (b.drop p) = more acc l,
        ⟨r1.length, rfl, a1, r1, p1, rfl, e1, h2, o2, sr, hs⟩, ?_⟩
      rintro c σ H' ⟨rfl, acc, l, p', rfl, el, h3, o3, s3, hm⟩
      first | refine methV rfl h3.at_ rfl ⟨x, b, p', rfl, h3.rp, ?_⟩ | refine ⟨_, rfl, x.r, x.dx, _, rfl, h3.at_, rfl, x, b, p', rfl, h3.rp, ?_⟩
      refine ⟨rfl, _, rfl, ?_⟩
      by_cases hp : pk (b.drop p') = 43
      · obtain ⟨r, er⟩ := pk_eq (c := 43) hp
        have el2 : l = 43 :: r := by rw [← el, er]
        subst el2
        rw [more_plus] at hm
        refine ifEqT hp ?_
        refine ⟨_, fun σ' H' q => q, ?_⟩
        first | refine methV rfl h3.at_ rfl ⟨x, b, p', rfl, h3.rp, ?_⟩ | refine ⟨_, rfl, x.r, x.dx, _, rfl, h3.at_, rfl, x, b, p', rfl, h3.rp, ?_⟩
        have h4 := h3.mv (p' + 1)
        have s4 : SameRF x H' (x.mv a.C_Reader H' (p' + 1)) := SameRF.mv (SameRF.refl x H') _ _
        have o4 := o3.rf h3 s4
        generalize x.mv a.C_Reader H' (p' + 1) = H4 at h4 s4 o4
        have e4 : b.drop (p' + 1) = r := drop1 el
        first | refine methV rfl h4.at_ rfl ⟨_, rfl, H0, x, b, p' + 1, _, ps, prs, t, acc, rfl, h4, o4, ?_, ?_⟩ | refine ⟨_, rfl, x.r, x.dx, _, rfl, h4.at_, rfl, _, rfl, H0, x, b, p' + 1, _, ps, prs, t, acc, rfl, h4, o4, ?_, ?_⟩
        · intro a5 r5 p5 H5 pm5 e5 h5 o5 s5
          rw [e4] at pm5
          rw [pm5] at hm
          rw [fS_add] at h5
          refine ⟨r5.length, ?_, rfl, acc.add a5, r5, p5, rfl, e5, h5, o5, fun c o e n m => s5 c o (s4 c o (s3 c o e n m) n m) n m (ne_of_none e ht), hm⟩
          have := partM_len pm5
          simp only [List.length_cons]
          (first | lia | omega)
        · intro pn
          rw [e4] at pn
          rw [pn] at hm
          exact k2 hm
      · refine ifEqF hp ?_
        refine ⟨_, rfl, ?_⟩
        rw [more_stop acc (fun r z => hp (by rw [el, z]; rfl))] at hm
        exact k1 acc l p' t H' hm el h3 ht o3.at_ s3
    · intro pn
      refine k2 ?_
      rw [sumM_eq, pn]
end
end WS
end
section
set_option Elab.async false
set_option linter.all false
set_option maxRecDepth 100000
set_option maxHeartbeats 1000000
namespace WS
open PySem PySem.Spec PyProof.Rows L2
open Sy15 (T Val put)
theorem Paired.mapM {α β : Type} {F G : α → β → Prop} : ∀ {l : List α} {k : List β}, Paired F l k → (∀ a ∈ l, ∀ b, F a b → G a b) → Paired G l k
  | _, _, .nil, _ => .nil
  | _, _, .cons r t, h => .cons (h _ (List.mem_cons_self ..) _ r) (Paired.mapM t fun a m => h a (List.mem_cons_of_mem _ m))
theorem Paired.some {α β : Type} {F : α → β → Prop} : ∀ {l : List α} {k : List β}, Paired F l k → ∀ a ∈ l, ∃ b, F a b
  | _, _, .cons r t, a, m => by
    rcases List.mem_cons.mp m with rfl | z
    · exact ⟨_, r⟩
    · exact Paired.some t a z
def fmP : Fm → Int × Int
  | .nt => (33, -1)
  | .op => (40, -1)
  | .jn o _ => ((o : Nat), -1)
  | .bd q u => ((q : Nat), (u : Nat))
def prsOf (F : List Fm) : List (Int × Int) := (F.map fmP).reverse
theorem bP_bnd (F : List Fm) (u : Nat) : bP (prsOf F) u = bnd F u := by
  unfold bP prsOf bnd
  rw [List.any_reverse, List.any_map]
  congr 1
  funext f
  cases f with
  | nt => simp [fmP]
  | op => simp [fmP]
  | jn o s => simp [fmP]
  | bd q w =>
    simp only [fmP, V.int.injEq, Bool.beq_eq_decide_eq, Function.comp]
    exact decide_eq_decide.mpr Int.ofNat_inj
def Dm (x : RA) (bs : List Addr) : Addr → Prop := fun c => c = x.r ∨ c = x.f ∨ c = x.w ∨ c = x.B ∨ c ∈ bs
def OkF : Fm → Prop
  | .jn o _ => isJ o
  | .bd q _ => q = 65 ∨ q = 69
  | _ => True
def fT (fr : Nat → Bool) (F : List Fm) (t : T) : Nat → Bool := fun u => fr u || (t.free u && !bnd F u)
structure RS (K : PySem.W.Frag) (C : Addr) (H0 H : Hp) (x : RA) (b : List Nat) (p : Nat) (fr : Nat → Bool) (F : List Fm) (bs : List Addr) (cs : List (List Step)) : Prop where
  q : ∃ ps, RQ K C H0 H x b p fr ps (prsOf F)
  nw : H0 x.w = none
  nB : H0 x.B = none
  nb : ∀ d ∈ bs, H0 d = none
  hB : H x.B = some (.lst (bs.reverse.map V.ref))
  nd : (x.f :: x.w :: x.B :: bs).Nodup
  bod : Paired (fun d ss => ∃ xs, H d = some (.lst xs) ∧ CodeAt H (Dm x bs) xs ss) bs cs
  last : bs.getLast? = some x.s0
  bound : (cs.map List.length).sum + F.length + (b.drop p).length ≤ b.length
  bl : b.length ≤ 100
  fok : ∀ f ∈ F, OkF f
theorem RS.keepRF {K : PySem.W.Frag} {C : Addr} {H0 H H' : Hp} {x : RA} {b : List Nat} {p p' : Nat} {fr fr' : Nat → Bool} {F : List Fm} {bs : List Addr} {cs : List (List Step)} (h : RS K C H0 H x b p fr F bs cs) {ps : List Addr} (q : RQ K C H0 H' x b p' fr' ps (prsOf F)) (s : SameRF x H H')
    (hb : (cs.map List.length).sum + F.length + (b.drop p').length ≤ b.length) : RS K C H0 H' x b p' fr' F bs cs := by
  obtain ⟨ps0, q0⟩ := h.q
  have nd := h.nd
  simp only [List.nodup_cons, List.mem_cons, not_or] at nd
  refine ⟨⟨ps, q⟩, h.nw, h.nB, h.nb, s _ _ h.hB (ne_of h.hB q0.at_ (by intro z; cases z)) (Ne.symm nd.1.2.1), h.nd, ?_, h.last, hb, h.bl, h.fok⟩
  have key : ∀ d ∈ bs, ∀ ss, (∃ xs, H d = some (.lst xs) ∧ CodeAt H (Dm x bs) xs ss) → ∃ xs, H' d = some (.lst xs) ∧ CodeAt H' (Dm x bs) xs ss := by
    rintro d hd ss ⟨xs, e, c⟩
    refine ⟨xs, s _ _ e (ne_of e q0.at_ (by intro z; cases z)) (fun z => nd.1.2.2 (z ▸ hd)), c.mono (fun b' o e' n => s b' o e' (fun z => n (.inl z)) (fun z => n (.inr (.inl z)))) fun _ _ _ n => n⟩
  exact WS.Paired.mapM h.bod key
theorem RQ.updL {K : PySem.W.Frag} {C : Addr} {H0 H : Hp} {x : RA} {b : List Nat} {p : Nat} {fr : Nat → Bool} {ps : List Addr} {prs : List (Int × Int)} (h : RQ K C H0 H x b p fr ps prs) {d : Addr} {ys : List V} (hd : H d = some (.lst ys)) (df : d ≠ x.f) (dw : d ≠ x.w) (d0 : H0 d = none) (zs : List V) :
    RQ K C H0 (upd H d (.lst zs)) x b p fr ps prs := by
  refine h.keep (fun c o e n m z => ?_) ?_ ?_
  · rw [upd_ne ?_]
    · exact e
    · rcases z with z | rfl | ⟨l, rfl⟩
      · exact ne_of_none z d0
      · exact dw.symm
      · exact ne_of e hd (by intro z; cases z)
  · rw [upd_ne (ne_of h.at_ hd (by intro z; cases z))]
    exact h.at_
  · rw [upd_ne df.symm]
    exact h.hf
theorem RS.there {K : PySem.W.Frag} {C : Addr} {H0 H : Hp} {x : RA} {b : List Nat} {p : Nat} {fr : Nat → Bool} {F : List Fm} {bs : List Addr} {cs : List (List Step)} (h : RS K C H0 H x b p fr F bs cs) {c : Addr} (hc : H c = none) : ¬ Dm x bs c := by
  obtain ⟨ps, q⟩ := h.q
  rintro (rfl | rfl | rfl | rfl | z)
  · rw [q.at_] at hc; cases hc
  · rw [q.hf] at hc; cases hc
  · rw [q.hw] at hc; cases hc
  · rw [h.hB] at hc; cases hc
  · obtain ⟨ss, xs, e, _⟩ := WS.Paired.some h.bod c z
    rw [e] at hc; cases hc
theorem RS.ndD {K : PySem.W.Frag} {C : Addr} {H0 H : Hp} {x : RA} {b : List Nat} {p : Nat} {fr : Nat → Bool} {F : List Fm} {bs : List Addr} {cs : List (List Step)} (h : RS K C H0 H x b p fr F bs cs) : (∀ d ∈ bs, d ≠ x.f ∧ d ≠ x.w ∧ d ≠ x.B) ∧ x.f ≠ x.w ∧ x.f ≠ x.B ∧ x.w ≠ x.B ∧ bs.Nodup := by
  have nd := h.nd
  simp only [List.nodup_cons, List.mem_cons, not_or] at nd
  exact ⟨fun d hd => ⟨fun z => nd.1.2.2 (z ▸ hd), fun z => nd.2.1.2 (z ▸ hd), fun z => nd.2.2.1 (z ▸ hd)⟩, nd.1.1, nd.1.2.1, nd.2.1.1, nd.2.2.2⟩
theorem RS.push {K : PySem.W.Frag} {C : Addr} {H0 H : Hp} {x : RA} {b : List Nat} {p : Nat} {fr : Nat → Bool} {F : List Fm} {d : Addr} {bs : List Addr} {ss : List Step} {cs : List (List Step)} (h : RS K C H0 H x b p fr F (d :: bs) (ss :: cs)) {xs : List V} (hd : H d = some (.lst xs)) {v : V} {st : List Step}
    (hv : CodeAt H (Dm x (d :: bs)) [v] st) (hb : (((ss ++ st) :: cs).map List.length).sum + F.length + (b.drop p).length ≤ b.length) : RS K C H0 (upd H d (.lst (xs ++ [v]))) x b p fr F (d :: bs) ((ss ++ st) :: cs) := by
  obtain ⟨ps, q⟩ := h.q
  obtain ⟨nd1, n2, n3, n4, n5⟩ := h.ndD
  have dd := nd1 d (List.mem_cons_self ..)
  rw [List.nodup_cons] at n5
  have cm : ∀ {xs : List V} {ss : List Step}, CodeAt H (Dm x (d :: bs)) xs ss → CodeAt (upd H d (.lst (xs ++ [v]))) (Dm x (d :: bs)) xs ss := fun c => c.mono (fun b' o e n => by rw [upd_ne (fun z => n (.inr (.inr (.inr (.inr (by rw [z]; exact List.mem_cons_self ..)))))) ]; exact e) fun _ _ _ n => n
  have cm' : ∀ {ys zs : List V} {ss : List Step}, CodeAt H (Dm x (d :: bs)) ys ss → CodeAt (upd H d (.lst zs)) (Dm x (d :: bs)) ys ss := fun c => c.mono (fun b' o e n => by rw [upd_ne (fun z => n (.inr (.inr (.inr (.inr (by rw [z]; exact List.mem_cons_self ..)))))) ]; exact e) fun _ _ _ n => n
  refine ⟨⟨ps, q.updL hd dd.1 dd.2.1 (h.nb d (List.mem_cons_self ..)) _⟩, h.nw, h.nB, h.nb, by rw [upd_ne (Ne.symm dd.2.2)]; exact h.hB, h.nd, ?_, h.last, hb, h.bl, h.fok⟩
  cases h.bod with
  | cons r t =>
    obtain ⟨ys, e, c⟩ := r
    rw [hd] at e
    cases e
    refine .cons ⟨_, upd_same, (cm' c).append (cm' hv)⟩ (WS.Paired.mapM t fun d' hd' ss' ⟨ys, e, c⟩ => ⟨ys, ?_, cm' c⟩)
    rw [upd_ne (fun z : d' = d => n5.1 (z ▸ hd'))]
    exact e
theorem atI_last {bs : List Addr} {d : Addr} : atI ((d :: bs).reverse.map V.ref) (-1) = some (.ref d) := by
  rw [List.reverse_cons, List.map_append]
  unfold atI
  have e : ixN (List.map V.ref bs.reverse ++ List.map V.ref [d]).length (-1) = some bs.length := by
    rw [List.length_append, List.length_map, List.length_reverse, List.length_map, List.length_singleton]
    unfold ixN
    rw [if_neg (by decide), if_pos (by (first | lia | omega))]
    congr 1
    (first | lia | omega)
  rw [e]
  simp
theorem code_atom {a : Sy15.Sum} {r q : List Nat} {t : T} (h : atomR a r = some (t, q)) : (code t).length = 1 := by
  unfold atomR at h
  split at h
  · split at h
    · cases h; rfl
    · cases h
  · split at h
    · cases h; rfl
    · cases h
  · split at h
    · split at h
      · cases h; rfl
      · cases h
    · cases h
  · cases h
theorem fS_fT1 (fr : Nat → Bool) (F : List Fm) (s : Sy15.Sum) (m r : Nat) : fS fr (prsOf F) s = fT fr F (.rest s m r) := by
  funext u
  unfold fS fT
  rw [bP_bnd]
  rfl
theorem fS_fT2 (fr : Nat → Bool) (F : List Fm) (s t : Sy15.Sum) (tt : T) (h : ∀ u, tt.free u = (s.has u || t.has u)) : fS (fS fr (prsOf F) s) (prsOf F) t = fT fr F tt := by
  funext u
  unfold fS fT
  rw [bP_bnd, h]
  cases fr u <;> cases s.has u <;> cases t.has u <;> cases bnd F u <;> rfl
def clo (t : T) (l : List Nat) : Option (T × List Nat) := match l with
  | 93 :: q => some (t, q)
  | _ => none
theorem clo_no {t : T} {l : List Nat} (h : ∀ r, l ≠ 93 :: r) : clo t l = none := by
  unfold clo
  split
  · exact absurd rfl (h _)
  · rfl
theorem atomR_60 (a : Sy15.Sum) (r : List Nat) : atomR a (60 :: r) = match sumM r with
    | none => none
    | some (b, q) => clo (.less a b) q := by
  unfold atomR clo
  simp only
  cases h : sumM r with
  | none => rfl
  | some y =>
    obtain ⟨b, q⟩ := y
    simp only
    split
    · rename_i z; cases z; rfl
    · rename_i z
      split
      · rename_i q'; exact (z _ _ rfl).elim
      · rfl
theorem atomR_61 (a : Sy15.Sum) (r : List Nat) : atomR a (61 :: r) = match sumM r with
    | none => none
    | some (b, q) => clo (.same a b) q := by
  unfold atomR clo
  simp only
  cases h : sumM r with
  | none => rfl
  | some y =>
    obtain ⟨b, q⟩ := y
    simp only
    split
    · rename_i z; cases z; rfl
    · rename_i z
      split
      · rename_i q'; exact (z _ _ rfl).elim
      · rfl
theorem atomR_else (a : Sy15.Sum) {l : List Nat} (h1 : pk l ≠ 37) (h2 : pk l ≠ 60) (h3 : pk l ≠ 61) : atomR a l = none := by
  unfold atomR
  split
  · exact absurd rfl h2
  · exact absurd rfl h3
  · exact absurd rfl h1
  · rfl
theorem atomR_37 (a : Sy15.Sum) (r : List Nat) {t : T} {q : List Nat} (h : atomR a (37 :: r) = some (t, q)) : ∃ c d i j, r = c :: 61 :: d :: 93 :: q ∧ Sy15.digit c = some i ∧ Sy15.digit d = some j ∧ 2 ≤ i ∧ j < i ∧ t = .rest a i j := by
  unfold atomR at h
  split at h
  · rename_i z; cases z
  · rename_i z; cases z
  · rename_i z; cases z
    split at h
    · rename_i h1 h2
      split at h
      · rename_i h3
        cases h
        exact ⟨_, _, _, _, rfl, h1, h2, h3.1, h3.2, rfl⟩
      · cases h
    · cases h
  · cases h
theorem atomR_37n (a : Sy15.Sum) (r : List Nat) (h : ∀ q c d i j, r = c :: 61 :: d :: 93 :: q → Sy15.digit c = some i → Sy15.digit d = some j → 2 ≤ i → j < i → False) : atomR a (37 :: r) = none := by
  cases e : atomR a (37 :: r) with
  | none => rfl
  | some y =>
    obtain ⟨t, q⟩ := y
    obtain ⟨c, d, i, j, h1, h2, h3, h4, h5, _⟩ := atomR_37 a r e
    exact (h q c d i j h1 h2 h3 h4 h5).elim
theorem atomR_37s (a : Sy15.Sum) {c d i j : Nat} (q : List Nat) (hc : Sy15.digit c = some i) (hd : Sy15.digit d = some j) (h1 : 2 ≤ i) (h2 : j < i) : atomR a (37 :: c :: 61 :: d :: q) = clo (.rest a i j) q := by
  cases q with
  | nil => rfl
  | cons e q =>
    by_cases he : e = 93
    · subst he
      unfold atomR clo
      simp only [hc, hd]
      rw [if_pos ⟨h1, h2⟩]
    · rw [clo_no (fun r z => he (by cases z; rfl)), atomR_37n]
      intro q' c' d' i' j' z
      cases z
      exact absurd rfl he
theorem sl_at (s : Sy15.Sum) {u : Nat} (h : u < 3) : (sl s)[u]? = some (.int ((sg s u : Nat) : Int)) := by
  rcases lt3 h with rfl | rfl | rfl <;> rfl
theorem dsl_get (s t : Sy15.Sum) {u : Nat} (h : u < 3) : (dsl s t).get u = ((sg s u : Nat) : Int) - ((sg t u : Nat) : Int) := by
  rcases lt3 h with rfl | rfl | rfl <;> rfl
section
variable {P : Program} {w : World} {K : PySem.W.Frag} {mg : Str → Option Value} {base : Heap} {a : Adr}
def sp_read_claim (K : PySem.W.Frag) (C : Addr) : Sp := fun vs H Q E => ∃ (H0 : Hp) (x : RA) (b : List Nat) (p : Nat) (fr : Nat → Bool) (F : List Fm) (d : Addr) (bs : List Addr) (ss : List Step) (cs : List (List Step)), vs = [.ref x.r] ∧ RS K C H0 H x b p fr F (d :: bs) (ss :: cs) ∧
  (∀ t r p' H', Sy15.atom (b.drop p) = some (t, r) → b.drop p' = r → RS K C H0 H' x b p' (fT fr F t) F (d :: bs) ((ss ++ code t) :: cs) → Q .non H') ∧ (Sy15.atom (b.drop p) = none → AllE C H0 x E)
@[reducible] def t_read_claim_0 (K : PySem.W.Frag) (a : Adr) (E : XK) (d : Nat) : TS := (tDrop (tBM K "list" rAppend (tOp (rIxL K) (tFld K (tVar 0) "bodies") (tUn (rU fun i => .int (-i)) (tC (.int 1)))) (tCons (tVar 5) tNil)))
@[reducible] def t_read_claim_1 (K : PySem.W.Frag) (a : Adr) (E : XK) (d : Nat) : TS := tSeq (tDrop (tMeth a.C_Reader "take_just" (sp_take_just K a.C_Reader) [] E (tVar 0) (tCons (tC (.int (93))) tNil))) (t_read_claim_0 K a E d)
@[reducible] def t_read_claim_2 (K : PySem.W.Frag) (a : Adr) (E : XK) (d : Nat) : TS := (tAsg (tTup (tCons (tC (.int (37))) (tCons (tSl (rSlL K) (tVar 1) tNoPart (tPart (tC (.int (3))))) (tCons (tOp (rIxL K) (tVar 1) (tC (.int (3)))) (tCons (tVar 3) (tCons (tVar 4) tNil)))))) (gName 5))
@[reducible] def t_read_claim_3 (K : PySem.W.Frag) (a : Adr) (E : XK) (d : Nat) : TS := tSeq (tAsg (tMeth a.C_Reader "take_digit" (sp_take_digit K a.C_Reader) [] E (tVar 0) (tCons (tC (.int 0)) (tCons (tOp (rI0 fun i j => .int (i - j)) (tVar 3) (tC (.int 1))) tNil))) (gName 4)) (t_read_claim_2 K a E d)
@[reducible] def t_read_claim_4 (K : PySem.W.Frag) (a : Adr) (E : XK) (d : Nat) : TS := tSeq (tDrop (tMeth a.C_Reader "take_just" (sp_take_just K a.C_Reader) [] E (tVar 0) (tCons (tC (.int (61))) tNil))) (t_read_claim_3 K a E d)
@[reducible] def t_read_claim_5 (K : PySem.W.Frag) (a : Adr) (E : XK) (d : Nat) : TS := tSeq (tAsg (tMeth a.C_Reader "take_digit" (sp_take_digit K a.C_Reader) [] E (tVar 0) (tCons (tC (.int 2)) (tCons (tC (.int 9)) tNil))) (gName 3)) (t_read_claim_4 K a E d)
@[reducible] def t_read_claim_6 (K : PySem.W.Frag) (a : Adr) (E : XK) (d : Nat) : TS := (tAsg (tTup (tCons (tVar 2) (tCons (tVar 7) (tCons (tOp (rI0 fun i j => .int (i - j)) (tOp (rIxL K) (tVar 1) (tC (.int (3)))) (tOp (rIxL K) (tVar 6) (tC (.int (3))))) tNil)))) (gName 5))
@[reducible] def t_read_claim_7 (K : PySem.W.Frag) (a : Adr) (E : XK) (d : Nat) : TS := tSeq (tAsg (tLc (iRng1 (tCons (tC (.int (3))) tNil)) (gName 8) tYes (tOp (rI0 fun i j => .int (i - j)) (tOp (rIxL K) (tVar 1) (tVar 8)) (tOp (rIxL K) (tVar 6) (tVar 8))) [8]) (gName 7)) (t_read_claim_6 K a E d)
@[reducible] def t_read_claim_8 (K : PySem.W.Frag) (a : Adr) (E : XK) (d : Nat) : TS := tSeq (tAsg (tMeth a.C_Reader "read_sum" (sp_read_sum K a.C_Reader) [] E (tVar 0) tNil) (gName 6)) (t_read_claim_7 K a E d)
@[reducible] def t_read_claim_9 (K : PySem.W.Frag) (a : Adr) (E : XK) (d : Nat) : TS := (fun _ _ H => E (.ref a.C_NoText) none H)
@[reducible] def t_read_claim_10 (K : PySem.W.Frag) (a : Adr) (E : XK) (d : Nat) : TS := (tIfS (tTest (tOp (rIn K false) (tVar 2) (tTup (tCons (tC (.int (60))) (tCons (tC (.int (61))) tNil))))) (t_read_claim_8 K a E d) (t_read_claim_9 K a E d))
@[reducible] def t_read_claim_11 (K : PySem.W.Frag) (a : Adr) (E : XK) (d : Nat) : TS := tSeq (tIfS (tTest (tOp rEq (tVar 2) (tC (.int (37))))) (t_read_claim_5 K a E d) (t_read_claim_10 K a E d)) (t_read_claim_1 K a E d)
@[reducible] def t_read_claim_12 (K : PySem.W.Frag) (a : Adr) (E : XK) (d : Nat) : TS := tSeq (tAsg (tMeth a.C_Reader "take" (sp_take K a.C_Reader) [] E0 (tVar 0) tNil) (gName 2)) (t_read_claim_11 K a E d)
@[reducible] def t_read_claim_13 (K : PySem.W.Frag) (a : Adr) (E : XK) (d : Nat) : TS := tSeq (tAsg (tMeth a.C_Reader "read_sum" (sp_read_sum K a.C_Reader) [] E (tVar 0) tNil) (gName 1)) (t_read_claim_12 K a E d)
theorem ok_read_claim (T : Txt K mg a) : FnOk P w K mg base (CXN P w a.C_NoText) 7 a.f_read_claim a.d_read_claim ["self"] (sp_read_claim K a.C_Reader) := by
  have G_take : FnOk P w K mg base CX0 2 a.f_take a.d_take ["self"] (sp_take K a.C_Reader) := ok_take T
  have G_take_just : FnOk P w K mg base (CXN P w a.C_NoText) 3 a.f_take_just a.d_take_just ["self", "byte"] (sp_take_just K a.C_Reader) := ok_take_just T
  have G_take_digit : FnOk P w K mg base (CXN P w a.C_NoText) 3 a.f_take_digit a.d_take_digit ["self", "lowest", "highest"] (sp_take_digit K a.C_Reader) := ok_take_digit T
  have G_read_sum : FnOk P w K mg base (CXN P w a.C_NoText) 6 a.f_read_sum a.d_read_sum ["self"] (sp_read_sum K a.C_Reader) := ok_read_sum T
  refine Fun.okN T.f_read_claim sc_read_claim (fun vs H Q E h => ?_) (fun cdv A outer s H vs Q E hr h => ?_)
  · obtain ⟨H0, x, b, p, fr, F, d, bs, ss, cs, rfl, _⟩ := h
    rfl
  · obtain ⟨H0, x, b, p, fr, F, d, bs, ss, cs, rfl, hs, k1, k2⟩ := h
    refine ⟨_, (pss_cons (ps_set (i := 1) sc_read_claim.nd rfl (Or.inr rfl) (pe_meth0 (pv 0) T.c_Reader T.h_read_sum G_read_sum (hr.mono (by decide)) T.b_read_sum .nil passN))
        (pss_cons (ps_set (i := 2) sc_read_claim.nd rfl (Or.inl rfl) (pe_meth0 (pv 0) T.c_Reader T.h_take G_take (hr.mono (by decide)) T.b_take .nil pass0))
        (pss_cons (ps_if (pt_cmpR op_eq (pv 2) (pe_gint rfl T.g_REST) (nomark _)) (pss_cons (ps_set (i := 3) sc_read_claim.nd rfl (Or.inl rfl) (pe_meth (pv 0) T.c_Reader T.h_take_digit G_take_digit (hr.mono (by decide)) T.b_take_digit .nil passN (pa_cons pe_int (pa_cons pe_int pa_nil))))
        (pss_cons (ps_expr (pe_meth (pv 0) T.c_Reader T.h_take_just G_take_just (hr.mono (by decide)) T.b_take_just .nil passN (pa_cons (pe_gint rfl T.g_EQUAL) pa_nil)))
        (pss_cons (ps_set (i := 4) sc_read_claim.nd rfl (Or.inl rfl) (pe_meth (pv 0) T.c_Reader T.h_take_digit G_take_digit (hr.mono (by decide)) T.b_take_digit .nil passN (pa_cons pe_int (pa_cons (pe_op op_sub (pv 3) pe_int) pa_nil))))
        (pss_one (ps_set (i := 5) sc_read_claim.nd rfl (Or.inl rfl) (pe_tup (pa_cons (pe_gint rfl T.g_REST) (pa_cons (pe_slice sl_list (pv 1) po_none (po_some (pe_gint rfl T.g_NUMBER))) (pa_cons (pe_ix ix_list (pv 1) (pe_gint rfl T.g_NUMBER) (fun _ _ => rfl)) (pa_cons (pv 3) (pa_cons (pv 4) pa_nil))))))))))) (pss_one (ps_if (pt_cmpR op_in_seq (pv 2) (pe_tup (pa_cons (pe_gint rfl T.g_LESS) (pa_cons (pe_gint rfl T.g_EQUAL) pa_nil))) (by with_unfolding_all rfl)) (pss_cons (ps_set (i := 6) sc_read_claim.nd rfl (Or.inr rfl) (pe_meth0 (pv 0) T.c_Reader T.h_read_sum G_read_sum (hr.mono (by decide)) T.b_read_sum .nil passN))
        (pss_cons (ps_setLc (i := 7) rfl sc_read_claim.nd rfl rfl (sw_true rfl rfl rfl (by rfl)) (pi_range1 rfl T.n_range (pa_cons (pe_gint rfl T.g_NUMBER) pa_nil)) (blkOk_by (own := [("k", 8)]) (by rfl)) (fun _ _ _ _ _ => (pg_name (i := 8) sc_read_claim.nd rfl (Or.inl rfl))) (fun _ _ _ _ _ => pts_nil) (fun _ _ _ _ _ => (pe_op op_sub (pe_ix (ix_listK K) (pv 1) (pv 8) (fun _ _ => rfl)) (pe_ix (ix_listK K) (pv 6) (pv 8) (fun _ _ => rfl)))))
        (pss_one (ps_set (i := 5) sc_read_claim.nd rfl (Or.inl rfl) (pe_tup (pa_cons (pv 2) (pa_cons (pv 7) (pa_cons (pe_op op_sub (pe_ix ix_list (pv 1) (pe_gint rfl T.g_NUMBER) (fun _ _ => rfl)) (pe_ix ix_list (pv 6) (pe_gint rfl T.g_NUMBER) (fun _ _ => rfl))) pa_nil)))))))) (pss_one (ps_raiseN T.exc rfl T.m_NoText)))))
        (pss_cons (ps_expr (pe_meth (pv 0) T.c_Reader T.h_take_just G_take_just (hr.mono (by decide)) T.b_take_just .nil passN (pa_cons (pe_gint rfl T.g_CLAIM_END) pa_nil)))
        (pss_one (ps_expr (pe_bm PySem.F.plainAttrs_list PySem.F.slot_list_append PySem.F.type_list_append mt_append (pe_ix ix_list (pe_fld (pv 0) (by rfl)) (pe_un un_neg pe_int) (fun _ _ => rfl)) (pa_cons (pv 5) pa_nil)))))))), ?_⟩
    show (t_read_claim_13 K a E 0 : TS) _ _ _
    obtain ⟨ps, hq⟩ := hs.q
    have bd0 := hs.bound
    rw [List.map_cons, List.sum_cons] at bd0
    have dlen : ∀ n, (b.drop (n + 1)).length ≤ (b.drop n).length := fun n => by rw [List.length_drop, List.length_drop]; (first | lia | omega)
    first | refine methV rfl hq.at_ rfl ⟨H0, x, b, p, fr, ps, prsOf F, rfl, hq, ?_, ?_⟩ | refine ⟨_, rfl, x.r, x.dx, _, rfl, hq.at_, rfl, H0, x, b, p, fr, ps, prsOf F, rfl, hq, ?_, ?_⟩
    rotate_left
    · intro no
      refine k2 ?_
      rw [atom_eq, no]
      rfl
    intro a1 r1 p1 t1 H1 sm1 e1 q1 n1 ht1 s1
    have l1 := sumM_len sm1
    have at1 : Sy15.atom (b.drop p) = atomR a1 (b.drop p1) := by
      rw [atom_eq, sm1, e1]
      rfl
    rw [← e1] at l1
    first | refine methV rfl q1.at_ rfl ⟨x, b, p1, rfl, q1.rp, ?_⟩ | refine ⟨_, rfl, x.r, x.dx, _, rfl, q1.at_, rfl, x, b, p1, rfl, q1.rp, ?_⟩
    have q2 := q1.mv (p1 + 1)
    have s2 : SameRF x H1 (x.mv a.C_Reader H1 (p1 + 1)) := SameRF.mv (SameRF.refl x H1) _ _
    generalize x.mv a.C_Reader H1 (p1 + 1) = H2 at q2 s2
    have s02 := s1.trans s2
    have tr : t1 ≠ x.r := Ne.symm (ne_of_none hq.at_ n1)
    have tf : t1 ≠ x.f := Ne.symm (ne_of_none hq.hf n1)
    have ht2 := s2 _ _ ht1 tr tf
    refine ⟨_, rfl, rfl, _, rfl, ?_⟩
    by_cases c37 : pk (b.drop p1) = 37
    · obtain ⟨r2, e2⟩ := pk_eq (c := 37) c37
      refine ifEqT c37 ?_
      have e3 := drop1 e2
      have l2 := dlen p1
      first | refine methV rfl q2.at_ rfl ⟨x, b, p1 + 1, 2, 9, rfl, by decide, by decide, q2.rp, ?_, ?_⟩ | refine ⟨_, rfl, x.r, x.dx, _, rfl, q2.at_, rfl, x, b, p1 + 1, 2, 9, rfl, by decide, by decide, q2.rp, ?_, ?_⟩
      rotate_left
      · intro no
        refine AllE.mv (k2 ?_) q2 _
        rw [at1, e2]
        refine atomR_37n _ _ fun q' c' d' i' j' z hc' hd' g1 g2 => ?_
        have := digit_some hc'
        exact no c' i' _ (e3.trans z) hc' (by (first | lia | omega)) (by (first | lia | omega))
      intro c i r4 e4 hdi g1 g2
      have q3 := q2.mv (p1 + 1 + 1)
      have s3 : SameRF x H2 (x.mv a.C_Reader H2 (p1 + 1 + 1)) := SameRF.mv (SameRF.refl x H2) _ _
      generalize x.mv a.C_Reader H2 (p1 + 1 + 1) = H3 at q3 s3
      have e5 := drop1 e4
      have l3 := dlen (p1 + 1)
      have er2 : r2 = c :: r4 := e3.symm.trans e4
      first | refine methV rfl q3.at_ rfl ⟨x, b, p1 + 1 + 1, 61, rfl, q3.rp, ?_, ?_⟩ | refine ⟨_, rfl, x.r, x.dx, _, rfl, q3.at_, rfl, x, b, p1 + 1 + 1, 61, rfl, q3.rp, ?_, ?_⟩
      rotate_left
      · intro no
        refine AllE.mv (k2 ?_) q3 _
        rw [at1, e2, er2]
        refine atomR_37n _ _ fun q' c' d' i' j' z hc' hd' g1 g2 => ?_
        cases z
        exact no _ e5
      intro r6 e6
      have q4 := q3.mv (p1 + 1 + 1 + 1)
      have s4 : SameRF x H3 (x.mv a.C_Reader H3 (p1 + 1 + 1 + 1)) := SameRF.mv (SameRF.refl x H3) _ _
      generalize x.mv a.C_Reader H3 (p1 + 1 + 1 + 1) = H4 at q4 s4
      have e7 := drop1 e6
      have l4 := dlen (p1 + 1 + 1)
      have er4 : r4 = 61 :: r6 := e5.symm.trans e6
      first | refine methV rfl q4.at_ rfl ⟨_, rfl, i2 ⟨x, b, p1 + 1 + 1 + 1, 0, (i : Int) - 1, rfl, by decide, by (first | lia | omega), q4.rp, ?_, ?_⟩⟩ | refine ⟨_, rfl, x.r, x.dx, _, rfl, q4.at_, rfl, _, rfl, _, _, rfl, rfl, x, b, p1 + 1 + 1 + 1, 0, (i : Int) - 1, rfl, by decide, by (first | lia | omega), q4.rp, ?_, ?_⟩
      rotate_left
      · intro no
        refine AllE.mv (k2 ?_) q4 _
        rw [at1, e2, er2, er4]
        refine atomR_37n _ _ fun q' c' d' i' j' z hc' hd' g1 g2 => ?_
        cases z
        rw [hdi] at hc'
        cases hc'
        exact no _ _ _ e7 hd' (by (first | lia | omega)) (by (first | lia | omega))
      intro c' j r8 e8 hdj g3 g4
      have q5 := q4.mv (p1 + 1 + 1 + 1 + 1)
      have s5 : SameRF x H4 (x.mv a.C_Reader H4 (p1 + 1 + 1 + 1 + 1)) := SameRF.mv (SameRF.refl x H4) _ _
      generalize x.mv a.C_Reader H4 (p1 + 1 + 1 + 1 + 1) = H5 at q5 s5
      have e9 := drop1 e8
      have l5 := dlen (p1 + 1 + 1 + 1)
      have er6 : r6 = c' :: r8 := e7.symm.trans e8
      have ht5 := s5 _ _ (s4 _ _ (s3 _ _ ht2 tr tf) tr tf) tr tf
      have S5 := hs.keepRF q5 (((s02.trans s3).trans s4).trans s5) (by rw [List.map_cons, List.sum_cons]; (first | lia | omega))
      refine ⟨_, rfl, _, rfl, t1, _, rfl, SqL.of ht5, fun D hD => ?_⟩
      have sD : Same H5 (upd H5 D (.lst (cutV (sl a1) none (some 3)))) := same_new hD
      have hDD : (upd H5 D (.lst (cutV (sl a1) none (some 3)))) D = some (.lst [.int (a1.x : Nat), .int (a1.y : Nat), .int (a1.z : Nat)]) := upd_same
      have nD := S5.there hD
      have qD := q5.same sD
      have SD := S5.keepRF qD (Same.rf sD x) S5.bound
      generalize upd H5 D (.lst (cutV (sl a1) none (some 3))) = H6 at sD hDD qD SD
      first | refine ⟨_, rfl, ixL (SqL.of (sD _ _ ht5)) (sl_ix (u := 3) _ (by (first | lia | omega))) ⟨_, rfl, _, rfl, by show 5 ≤ sizeLine; decide, fun pt hpt => ?_⟩⟩ | refine ⟨_, rfl, t1, _, _, _, rfl, rfl, SqL.of (sD _ _ ht5), sl_ix (u := 3) _ (by (first | lia | omega)), _, rfl, _, rfl, by show 5 ≤ sizeLine; decide, fun pt hpt => ?_⟩
      have nP := SD.there hpt
      have sP : Same H6 (upd H6 pt (.tup [.int 37, .ref D, .int ((sg a1 3 : Nat) : Int), .int (i : Nat), .int (j : Nat)])) := same_new hpt
      have hP : (upd H6 pt (.tup [.int 37, .ref D, .int ((sg a1 3 : Nat) : Int), .int (i : Nat), .int (j : Nat)])) pt = some (.tup [.int 37, .ref D, .int (a1.c : Nat), .int (i : Nat), .int (j : Nat)]) := upd_same
      have qP := qD.same sP
      have SP := SD.keepRF qP (Same.rf sP x) SD.bound
      have hDP := sP _ _ hDD
      generalize upd H6 pt (.tup [.int 37, .ref D, .int ((sg a1 3 : Nat) : Int), .int (i : Nat), .int (j : Nat)]) = H7 at hP qP SP hDP
      have CA : CodeAt H7 (Dm x (d :: bs)) [.ref pt] [.rest a1 i j] := .rest hP hDP nP nD .nil
      first | refine methV rfl qP.at_ rfl ⟨x, b, (p1 + 1 + 1 + 1 + 1), 93, rfl, qP.rp, ?_, ?_⟩ | refine ⟨_, rfl, x.r, x.dx, _, rfl, qP.at_, rfl, x, b, (p1 + 1 + 1 + 1 + 1), 93, rfl, qP.rp, ?_, ?_⟩
      · intro rz ez
        have q5 := qP.mv ((p1 + 1 + 1 + 1 + 1) + 1)
        have s5 : SameRF x H7 (x.mv a.C_Reader H7 ((p1 + 1 + 1 + 1 + 1) + 1)) := SameRF.mv (SameRF.refl x H7) _ _
        generalize x.mv a.C_Reader H7 ((p1 + 1 + 1 + 1 + 1) + 1) = H5 at q5 s5
        have h5 := SP.keepRF q5 s5 (by have := SP.bound; have := dlen (p1 + 1 + 1 + 1 + 1); (first | lia | omega))
        have hv5 := CA.mono (H' := H5) (D' := Dm x (d :: bs)) (fun b' o e' n => s5 b' o e' (fun z => n (.inl z)) (fun z => n (.inr (.inl z)))) (fun _ _ _ n => n)
        obtain ⟨xs, hd5, hc5⟩ : ∃ xs, H5 d = some (.lst xs) ∧ CodeAt H5 (Dm x (d :: bs)) xs ss := by
          cases h5.bod with
          | cons r t => exact r
        have ln := hc5.length
        have ml : (b.drop ((p1 + 1 + 1 + 1 + 1) + 1)).length < (b.drop p).length := by have := dlen (p1 + 1 + 1 + 1 + 1); (first | lia | omega)
        have hbl := hs.bl
        first | refine fldV rfl q5.at_ T.c_Reader T.a_Reader_bodies rfl ⟨_, rfl, ixL (SqL.of h5.hB) atI_last ⟨.inl ⟨rfl, _, SqL.of hd5⟩, _, rfl, apd hd5 (line_big (by (first | lia | omega))) ?_⟩⟩ | refine ⟨_, rfl, x.r, _, x.dx, _, _, rfl, q5.at_, T.c_Reader, T.a_Reader_bodies, rfl, _, rfl, x.B, _, _, _, rfl, rfl, SqL.of h5.hB, atI_last, .inl ⟨rfl, _, SqL.of hd5⟩, _, rfl, d, xs, _, rfl, rfl, hd5, line_big (by (first | lia | omega)), ?_⟩
        have r5 := h5.push hd5 hv5 (by rw [List.map_cons, List.sum_cons, List.length_append]; show _ + 1 + _ + _ + _ ≤ _; (first | lia | omega))
        refine k1 (.rest a1 i j) rz ((p1 + 1 + 1 + 1 + 1) + 1) _ ?_ (drop1 ez) ?_
        · rw [at1, (show atomR a1 (b.drop p1) = clo (.rest a1 i j) (b.drop (p1 + 1 + 1 + 1 + 1)) by rw [e2, er2, er4, er6, e9]; exact atomR_37s a1 r8 hdi hdj (by (first | lia | omega)) (by (first | lia | omega))), ez]
          rfl
        · rw [← fS_fT1 fr F a1 i j]
          exact r5
      · intro no
        refine AllE.mv (k2 ?_) qP _
        rw [at1, (show atomR a1 (b.drop p1) = clo (.rest a1 i j) (b.drop (p1 + 1 + 1 + 1 + 1)) by rw [e2, er2, er4, er6, e9]; exact atomR_37s a1 r8 hdi hdj (by (first | lia | omega)) (by (first | lia | omega))), clo_no no]
    refine ifEqF c37 ?_
    first | refine ⟨_, rfl, by show 2 ≤ sizeLine; decide, fun tp htp => inS (SqT.of upd_same) rfl rfl (tk ?_)⟩ | refine ⟨_, rfl, by show 2 ≤ sizeLine; decide, fun tp htp => ⟨tp, _, rfl, .inr (SqT.of upd_same), rfl, rfl, _, rfl, ?_⟩⟩
    have sT : Same H2 (upd H2 tp (.tup [.int 60, .int 61])) := same_new htp
    have q3 := q2.same sT
    have s03 := s02.trans (Same.rf sT x)
    have ht3 := sT _ _ ht2
    generalize upd H2 tp (.tup [.int 60, .int 61]) = H3 at q3 s03 ht3
    by_cases c60 : pk (b.drop p1) = 60
    · refine ifB (by rw [c60]; rfl) ?_
      obtain ⟨r2, e2⟩ := pk_eq (c := 60) c60
      have e3 := drop1 e2
      first | refine methV rfl q3.at_ rfl ⟨H0, x, b, p1 + 1, _, ps, prsOf F, rfl, q3, ?_, ?_⟩ | refine ⟨_, rfl, x.r, x.dx, _, rfl, q3.at_, rfl, H0, x, b, p1 + 1, _, ps, prsOf F, rfl, q3, ?_, ?_⟩
      rotate_left
      · intro no
        refine k2 ?_
        rw [e3] at no
        rw [at1, e2, atomR_60, no]
      intro a2 r4 p4 t2 H4 sm4 e4 q4 n2 ht4 s4
      have l4 := sumM_len sm4
      rw [← e4] at l4
      have l0 := dlen p1
      rw [e3] at sm4
      have ht14 := s4 _ _ ht3 tr tf
      have S4 := hs.keepRF q4 (s03.trans s4) (by rw [List.map_cons, List.sum_cons]; (first | lia | omega))
      refine ⟨3, rfl, by decide, by decide, fun D hD => ?_⟩
      refine lc_range (lo := 0) (n := 3) (fun i H' => H' = upd H4 D (.lst ((v3l (dsl a1 a2)).take i))) rfl ?_ ?_
      · rintro i H' hi rfl
        have sD : Same H4 (upd H4 D (.lst ((v3l (dsl a1 a2)).take i))) := same_new hD
        refine ⟨rfl, ?_⟩
        first | refine ⟨_, rfl, _, rfl, ixL (SqL.of (sD _ _ ht14)) (at_of (by (first | lia | omega)) (sl_at a1 hi)) ⟨_, rfl, _, rfl, ixL (SqL.of (sD _ _ ht4)) (at_of (by (first | lia | omega)) (sl_at a2 hi)) ?_⟩⟩ | refine ⟨_, rfl, _, rfl, t1, _, _, _, rfl, rfl, SqL.of (sD _ _ ht14), at_of (by (first | lia | omega)) (sl_at a1 hi), _, rfl, _, rfl, t2, _, _, _, rfl, rfl, SqL.of (sD _ _ ht4), at_of (by (first | lia | omega)) (sl_at a2 hi), ?_⟩
        first | refine i2 ⟨_, upd_same, line_big (by rw [List.length_take, v3_len]; (first | lia | omega)), ?_⟩ | refine ⟨_, _, rfl, rfl, _, upd_same, line_big (by rw [List.length_take, v3_len]; (first | lia | omega)), ?_⟩
        rw [upd_upd, take_snoc (v3_at _ hi), dsl_get _ _ hi]
      · rintro H' rfl
        have sD : Same H4 (upd H4 D (.lst ((v3l (dsl a1 a2)).take 3))) := same_new hD
        have hDD : (upd H4 D (.lst ((v3l (dsl a1 a2)).take 3))) D = some (.lst (v3l (dsl a1 a2))) := upd_same
        have nD := S4.there hD
        have qD := q4.same sD
        have SD := S4.keepRF qD (Same.rf sD x) S4.bound
        generalize upd H4 D (.lst ((v3l (dsl a1 a2)).take 3)) = H5 at sD hDD qD SD
        have ht15 := sD _ _ ht14
        have ht45 := sD _ _ ht4
        first | refine ⟨_, rfl, _, rfl, _, rfl, ixL (SqL.of ht15) (sl_ix (u := 3) _ (by (first | lia | omega))) ⟨_, rfl, ixL (SqL.of ht45) (sl_ix (u := 3) _ (by (first | lia | omega))) (i2 ⟨by show 3 ≤ sizeLine; decide, fun pt hpt => ?_⟩)⟩⟩ | refine ⟨_, rfl, _, rfl, _, rfl, t1, _, _, _, rfl, rfl, SqL.of ht15, sl_ix (u := 3) _ (by (first | lia | omega)), _, rfl, t2, _, _, _, rfl, rfl, SqL.of ht45, sl_ix (u := 3) _ (by (first | lia | omega)), _, _, rfl, rfl, by show 3 ≤ sizeLine; decide, fun pt hpt => ?_⟩
        rw [c60]
        have nP := SD.there hpt
        have sP : Same H5 (upd H5 pt (.tup [.int 60, .ref D, .int (((sg a1 3 : Nat) : Int) - ((sg a2 3 : Nat) : Int))])) := same_new hpt
        have hP : (upd H5 pt (.tup [.int 60, .ref D, .int (((sg a1 3 : Nat) : Int) - ((sg a2 3 : Nat) : Int))])) pt = some (.tup [.int 60, .ref D, .int (dcn a1 a2)]) := upd_same
        have qP := qD.same sP
        have SP := SD.keepRF qP (Same.rf sP x) SD.bound
        have hDP := sP _ _ hDD
        generalize upd H5 pt (.tup [.int 60, .ref D, .int (((sg a1 3 : Nat) : Int) - ((sg a2 3 : Nat) : Int))]) = H6 at hP qP SP hDP
        have CA : CodeAt H6 (Dm x (d :: bs)) [.ref pt] [.less a1 a2] := .less hP hDP nP nD .nil
        first | refine methV rfl qP.at_ rfl ⟨x, b, p4, 93, rfl, qP.rp, ?_, ?_⟩ | refine ⟨_, rfl, x.r, x.dx, _, rfl, qP.at_, rfl, x, b, p4, 93, rfl, qP.rp, ?_, ?_⟩
        · intro rz ez
          have q5 := qP.mv (p4 + 1)
          have s5 : SameRF x H6 (x.mv a.C_Reader H6 (p4 + 1)) := SameRF.mv (SameRF.refl x H6) _ _
          generalize x.mv a.C_Reader H6 (p4 + 1) = H5 at q5 s5
          have h5 := SP.keepRF q5 s5 (by have := SP.bound; have := dlen p4; (first | lia | omega))
          have hv5 := CA.mono (H' := H5) (D' := Dm x (d :: bs)) (fun b' o e' n => s5 b' o e' (fun z => n (.inl z)) (fun z => n (.inr (.inl z)))) (fun _ _ _ n => n)
          obtain ⟨xs, hd5, hc5⟩ : ∃ xs, H5 d = some (.lst xs) ∧ CodeAt H5 (Dm x (d :: bs)) xs ss := by
            cases h5.bod with
            | cons r t => exact r
          have ln := hc5.length
          have ml : (b.drop (p4 + 1)).length < (b.drop p).length := by have := dlen p4; (first | lia | omega)
          have hbl := hs.bl
          first | refine fldV rfl q5.at_ T.c_Reader T.a_Reader_bodies rfl ⟨_, rfl, ixL (SqL.of h5.hB) atI_last ⟨.inl ⟨rfl, _, SqL.of hd5⟩, _, rfl, apd hd5 (line_big (by (first | lia | omega))) ?_⟩⟩ | refine ⟨_, rfl, x.r, _, x.dx, _, _, rfl, q5.at_, T.c_Reader, T.a_Reader_bodies, rfl, _, rfl, x.B, _, _, _, rfl, rfl, SqL.of h5.hB, atI_last, .inl ⟨rfl, _, SqL.of hd5⟩, _, rfl, d, xs, _, rfl, rfl, hd5, line_big (by (first | lia | omega)), ?_⟩
          have r5 := h5.push hd5 hv5 (by rw [List.map_cons, List.sum_cons, List.length_append]; show _ + 1 + _ + _ + _ ≤ _; (first | lia | omega))
          refine k1 (.less a1 a2) rz (p4 + 1) _ ?_ (drop1 ez) ?_
          · rw [at1, (show atomR a1 (b.drop p1) = clo (.less a1 a2) (b.drop p4) by rw [e2, atomR_60, sm4, e4]), ez]
            rfl
          · rw [← fS_fT2 fr F a1 a2 (.less a1 a2) (fun _ => rfl)]
            exact r5
        · intro no
          refine AllE.mv (k2 ?_) qP _
          rw [at1, (show atomR a1 (b.drop p1) = clo (.less a1 a2) (b.drop p4) by rw [e2, atomR_60, sm4, e4]), clo_no no]
    by_cases c61 : pk (b.drop p1) = 61
    · refine ifB (by rw [c61]; rfl) ?_
      obtain ⟨r2, e2⟩ := pk_eq (c := 61) c61
      have e3 := drop1 e2
      first | refine methV rfl q3.at_ rfl ⟨H0, x, b, p1 + 1, _, ps, prsOf F, rfl, q3, ?_, ?_⟩ | refine ⟨_, rfl, x.r, x.dx, _, rfl, q3.at_, rfl, H0, x, b, p1 + 1, _, ps, prsOf F, rfl, q3, ?_, ?_⟩
      rotate_left
      · intro no
        refine k2 ?_
        rw [e3] at no
        rw [at1, e2, atomR_61, no]
      intro a2 r4 p4 t2 H4 sm4 e4 q4 n2 ht4 s4
      have l4 := sumM_len sm4
      rw [← e4] at l4
      have l0 := dlen p1
      rw [e3] at sm4
      have ht14 := s4 _ _ ht3 tr tf
      have S4 := hs.keepRF q4 (s03.trans s4) (by rw [List.map_cons, List.sum_cons]; (first | lia | omega))
      refine ⟨3, rfl, by decide, by decide, fun D hD => ?_⟩
      refine lc_range (lo := 0) (n := 3) (fun i H' => H' = upd H4 D (.lst ((v3l (dsl a1 a2)).take i))) rfl ?_ ?_
      · rintro i H' hi rfl
        have sD : Same H4 (upd H4 D (.lst ((v3l (dsl a1 a2)).take i))) := same_new hD
        refine ⟨rfl, ?_⟩
        first | refine ⟨_, rfl, _, rfl, ixL (SqL.of (sD _ _ ht14)) (at_of (by (first | lia | omega)) (sl_at a1 hi)) ⟨_, rfl, _, rfl, ixL (SqL.of (sD _ _ ht4)) (at_of (by (first | lia | omega)) (sl_at a2 hi)) ?_⟩⟩ | refine ⟨_, rfl, _, rfl, t1, _, _, _, rfl, rfl, SqL.of (sD _ _ ht14), at_of (by (first | lia | omega)) (sl_at a1 hi), _, rfl, _, rfl, t2, _, _, _, rfl, rfl, SqL.of (sD _ _ ht4), at_of (by (first | lia | omega)) (sl_at a2 hi), ?_⟩
        first | refine i2 ⟨_, upd_same, line_big (by rw [List.length_take, v3_len]; (first | lia | omega)), ?_⟩ | refine ⟨_, _, rfl, rfl, _, upd_same, line_big (by rw [List.length_take, v3_len]; (first | lia | omega)), ?_⟩
        rw [upd_upd, take_snoc (v3_at _ hi), dsl_get _ _ hi]
      · rintro H' rfl
        have sD : Same H4 (upd H4 D (.lst ((v3l (dsl a1 a2)).take 3))) := same_new hD
        have hDD : (upd H4 D (.lst ((v3l (dsl a1 a2)).take 3))) D = some (.lst (v3l (dsl a1 a2))) := upd_same
        have nD := S4.there hD
        have qD := q4.same sD
        have SD := S4.keepRF qD (Same.rf sD x) S4.bound
        generalize upd H4 D (.lst ((v3l (dsl a1 a2)).take 3)) = H5 at sD hDD qD SD
        have ht15 := sD _ _ ht14
        have ht45 := sD _ _ ht4
        first | refine ⟨_, rfl, _, rfl, _, rfl, ixL (SqL.of ht15) (sl_ix (u := 3) _ (by (first | lia | omega))) ⟨_, rfl, ixL (SqL.of ht45) (sl_ix (u := 3) _ (by (first | lia | omega))) (i2 ⟨by show 3 ≤ sizeLine; decide, fun pt hpt => ?_⟩)⟩⟩ | refine ⟨_, rfl, _, rfl, _, rfl, t1, _, _, _, rfl, rfl, SqL.of ht15, sl_ix (u := 3) _ (by (first | lia | omega)), _, rfl, t2, _, _, _, rfl, rfl, SqL.of ht45, sl_ix (u := 3) _ (by (first | lia | omega)), _, _, rfl, rfl, by show 3 ≤ sizeLine; decide, fun pt hpt => ?_⟩
        rw [c61]
        have nP := SD.there hpt
        have sP : Same H5 (upd H5 pt (.tup [.int 61, .ref D, .int (((sg a1 3 : Nat) : Int) - ((sg a2 3 : Nat) : Int))])) := same_new hpt
        have hP : (upd H5 pt (.tup [.int 61, .ref D, .int (((sg a1 3 : Nat) : Int) - ((sg a2 3 : Nat) : Int))])) pt = some (.tup [.int 61, .ref D, .int (dcn a1 a2)]) := upd_same
        have qP := qD.same sP
        have SP := SD.keepRF qP (Same.rf sP x) SD.bound
        have hDP := sP _ _ hDD
        generalize upd H5 pt (.tup [.int 61, .ref D, .int (((sg a1 3 : Nat) : Int) - ((sg a2 3 : Nat) : Int))]) = H6 at hP qP SP hDP
        have CA : CodeAt H6 (Dm x (d :: bs)) [.ref pt] [.same a1 a2] := .same hP hDP nP nD .nil
        first | refine methV rfl qP.at_ rfl ⟨x, b, p4, 93, rfl, qP.rp, ?_, ?_⟩ | refine ⟨_, rfl, x.r, x.dx, _, rfl, qP.at_, rfl, x, b, p4, 93, rfl, qP.rp, ?_, ?_⟩
        · intro rz ez
          have q5 := qP.mv (p4 + 1)
          have s5 : SameRF x H6 (x.mv a.C_Reader H6 (p4 + 1)) := SameRF.mv (SameRF.refl x H6) _ _
          generalize x.mv a.C_Reader H6 (p4 + 1) = H5 at q5 s5
          have h5 := SP.keepRF q5 s5 (by have := SP.bound; have := dlen p4; (first | lia | omega))
          have hv5 := CA.mono (H' := H5) (D' := Dm x (d :: bs)) (fun b' o e' n => s5 b' o e' (fun z => n (.inl z)) (fun z => n (.inr (.inl z)))) (fun _ _ _ n => n)
          obtain ⟨xs, hd5, hc5⟩ : ∃ xs, H5 d = some (.lst xs) ∧ CodeAt H5 (Dm x (d :: bs)) xs ss := by
            cases h5.bod with
            | cons r t => exact r
          have ln := hc5.length
          have ml : (b.drop (p4 + 1)).length < (b.drop p).length := by have := dlen p4; (first | lia | omega)
          have hbl := hs.bl
          first | refine fldV rfl q5.at_ T.c_Reader T.a_Reader_bodies rfl ⟨_, rfl, ixL (SqL.of h5.hB) atI_last ⟨.inl ⟨rfl, _, SqL.of hd5⟩, _, rfl, apd hd5 (line_big (by (first | lia | omega))) ?_⟩⟩ | refine ⟨_, rfl, x.r, _, x.dx, _, _, rfl, q5.at_, T.c_Reader, T.a_Reader_bodies, rfl, _, rfl, x.B, _, _, _, rfl, rfl, SqL.of h5.hB, atI_last, .inl ⟨rfl, _, SqL.of hd5⟩, _, rfl, d, xs, _, rfl, rfl, hd5, line_big (by (first | lia | omega)), ?_⟩
          have r5 := h5.push hd5 hv5 (by rw [List.map_cons, List.sum_cons, List.length_append]; show _ + 1 + _ + _ + _ ≤ _; (first | lia | omega))
          refine k1 (.same a1 a2) rz (p4 + 1) _ ?_ (drop1 ez) ?_
          · rw [at1, (show atomR a1 (b.drop p1) = clo (.same a1 a2) (b.drop p4) by rw [e2, atomR_61, sm4, e4]), ez]
            rfl
          · rw [← fS_fT2 fr F a1 a2 (.same a1 a2) (fun _ => rfl)]
            exact r5
        · intro no
          refine AllE.mv (k2 ?_) qP _
          rw [at1, (show atomR a1 (b.drop p1) = clo (.same a1 a2) (b.drop p4) by rw [e2, atomR_61, sm4, e4]), clo_no no]
    · refine ifBF ?_ ?_
      · show (((60 : Int) == pk (b.drop p1)) || (((61 : Int) == pk (b.drop p1)) || false)) = false
        simp only [Bool.or_false, Bool.or_eq_false_iff, beq_eq_false_iff_ne]
        (first | lia | omega)
      · refine AllE.at_ (k2 ?_) q3
        rw [at1]
        exact atomR_else _ c37 c60 c61
end
end WS
end
section
set_option Elab.async false
set_option linter.all false
set_option maxRecDepth 100000
set_option maxHeartbeats 1000000
namespace WS
open PySem PySem.Spec PyProof.Rows L2
open Sy15 (T Val put)
theorem Paired.snoc {α β : Type} {R : α → β → Prop} : ∀ {l : List α} {k : List β} {z : β}, Paired R l (k ++ [z]) → ∃ l0 y, l = l0 ++ [y] ∧ Paired R l0 k ∧ R y z
  | _, [], _, .cons r .nil => ⟨[], _, rfl, .nil, r⟩
  | _, _ :: k, _, .cons r t => by
    obtain ⟨l0, y, rfl, h1, h2⟩ := Paired.snoc (k := k) t
    exact ⟨_ :: l0, y, rfl, .cons r h1, h2⟩
theorem prs_cons (f : Fm) (F : List Fm) : prsOf (f :: F) = prsOf F ++ [fmP f] := by simp [prsOf]
theorem prs_len (F : List Fm) : (prsOf F).length = F.length := by simp [prsOf]
section
variable {K : PySem.W.Frag} {C : Addr} {H0 H : Hp} {x : RA} {b : List Nat} {p : Nat} {fr : Nat → Bool} {F : List Fm} {bs : List Addr} {cs : List (List Step)}
theorem RS.wlen (h : RS K C H0 H x b p fr F bs cs) {ps : List Addr} (q : RQ K C H0 H x b p fr ps (prsOf F)) : ps.length = F.length := by
  rw [Paired.length q.ww, prs_len]
theorem RS.cm (h : RS K C H0 H x b p fr F bs cs) {d : Addr} {o : HO} (hd : Dm x bs d) {ys : List V} {ss : List Step} (c : CodeAt H (Dm x bs) ys ss) : CodeAt (upd H d o) (Dm x bs) ys ss :=
  c.mono (fun b' o' e n => by rw [upd_ne (fun z : b' = d => n (z ▸ hd))]; exact e) fun _ _ _ n => n
theorem RS.wait (h : RS K C H0 H x b p fr F bs cs) {ps : List Addr} (q : RQ K C H0 H x b p fr ps (prsOf F)) {f : Fm} {tp : Addr} (ht : H tp = some (.tup [.int (fmP f).1, .int (fmP f).2])) (hf : OkF f) (hb : (cs.map List.length).sum + (F.length + 1) + (b.drop p).length ≤ b.length) :
    RS K C H0 (upd H x.w (.lst (ps.map V.ref ++ [.ref tp]))) x b p fr (f :: F) bs cs := by
  obtain ⟨nd1, n2, n3, n4, n5⟩ := h.ndD
  have wl := h.wlen q
  have hbl := h.bl
  have st : ∀ c o, H c = some o → c ≠ x.w → (upd H x.w (.lst (ps.map V.ref ++ [.ref tp]))) c = some o := fun c o e n => by rw [upd_ne n]; exact e
  have tw : ∀ {c : Addr} {l : List V}, H c = some (.tup l) → c ≠ x.w := fun e => ne_of e q.hw (by intro z; cases z)
  refine ⟨⟨ps ++ [tp], ⟨fun c o e => st c o (q.s0 _ _ e) (ne_of_none e h.nw), q.tx, q.nr, q.nf, st _ _ q.at_ (ne_of q.at_ q.hw (by intro z; cases z)), st _ _ q.hf n2, ?_, ?_, q.wf, ?_⟩⟩, h.nw, h.nB, h.nb, st _ _ h.hB (Ne.symm n4), h.nd, ?_, h.last, by rw [List.length_cons]; exact hb, h.bl, ?_⟩
  · rw [upd_same, List.map_append]
    rfl
  · rw [prs_cons]
    exact Paired.app (Paired.mapP q.ww fun _ _ e => st _ _ e (tw e)) (.cons (st _ _ ht (tw ht)) .nil)
  · rw [List.length_append, List.length_singleton]
    (first | lia | omega)
  · exact WS.Paired.mapM h.bod fun d hd ss ⟨xs, e, c⟩ => ⟨xs, st _ _ e (nd1 d hd).2.1, h.cm (.inr (.inr (.inl rfl))) c⟩
  · intro f' hf'
    rcases List.mem_cons.mp hf' with rfl | z
    · exact hf
    · exact h.fok f' z
theorem RS.unwait {f : Fm} (h : RS K C H0 H x b p fr (f :: F) bs cs) : ∃ ps tp, H x.w = some (.lst ((ps ++ [tp]).map V.ref)) ∧ H tp = some (.tup [.int (fmP f).1, .int (fmP f).2]) ∧ OkF f ∧
    RS K C H0 (upd H x.w (.lst (ps.map V.ref))) x b p fr F bs cs ∧ (upd H x.w (.lst (ps.map V.ref))) tp = some (.tup [.int (fmP f).1, .int (fmP f).2]) := by
  obtain ⟨ps', q⟩ := h.q
  obtain ⟨nd1, n2, n3, n4, n5⟩ := h.ndD
  have ww := q.ww
  rw [prs_cons] at ww
  obtain ⟨ps, tp, rfl, h1, h2⟩ := WS.Paired.snoc ww
  have tw : ∀ {c : Addr} {l : List V}, H c = some (.tup l) → c ≠ x.w := fun e => ne_of e q.hw (by intro z; cases z)
  have st : ∀ c o, H c = some o → c ≠ x.w → (upd H x.w (.lst (ps.map V.ref))) c = some o := fun c o e n => by rw [upd_ne n]; exact e
  have hb := h.bound
  have wl := q.wl
  rw [List.length_append, List.length_singleton] at wl
  rw [List.length_cons] at hb
  refine ⟨ps, tp, q.hw, h2, h.fok f (List.mem_cons_self ..), ⟨⟨ps, ⟨fun c o e => st c o (q.s0 _ _ e) (ne_of_none e h.nw), q.tx, q.nr, q.nf, st _ _ q.at_ (ne_of q.at_ q.hw (by intro z; cases z)), st _ _ q.hf n2, upd_same, ?_, q.wf, by (first | lia | omega)⟩⟩, h.nw, h.nB, h.nb, st _ _ h.hB (Ne.symm n4), h.nd, ?_, h.last, by (first | lia | omega), h.bl, fun f' hf' => h.fok f' (List.mem_cons_of_mem _ hf')⟩, st _ _ h2 (tw h2)⟩
  · exact Paired.mapP h1 fun _ _ e => st _ _ e (tw e)
  · exact WS.Paired.mapM h.bod fun d hd ss ⟨xs, e, c⟩ => ⟨xs, st _ _ e (nd1 d hd).2.1, h.cm (.inr (.inr (.inl rfl))) c⟩
theorem RS.open_ (h : RS K C H0 H x b p fr F bs cs) {e : Addr} (he : H e = none) : RS K C H0 (upd (upd H e (.lst [])) x.B (.lst (bs.reverse.map V.ref ++ [.ref e]))) x b p fr F (e :: bs) ([] :: cs) := by
  obtain ⟨ps, q⟩ := h.q
  obtain ⟨nd1, n2, n3, n4, n5⟩ := h.ndD
  have nD := h.there he
  have eB : e ≠ x.B := fun z => nD (.inr (.inr (.inr (.inl z))))
  have ef : e ≠ x.f := fun z => nD (.inr (.inl z))
  have ew : e ≠ x.w := fun z => nD (.inr (.inr (.inl z)))
  have e0 := q.s0.free he
  have ebs : e ∉ bs := fun z => nD (.inr (.inr (.inr (.inr z))))
  have st : ∀ c o, H c = some o → c ≠ x.B → (upd (upd H e (.lst [])) x.B (.lst (bs.reverse.map V.ref ++ [.ref e]))) c = some o := fun c o z n => by rw [upd_ne n, upd_ne (ne_of_none z he)]; exact z
  have tB : ∀ {c : Addr} {l : List V}, H c = some (.tup l) → c ≠ x.B := fun e => ne_of e h.hB (by intro z; cases z)
  refine ⟨⟨ps, ⟨fun c o e => st c o (q.s0 _ _ e) (ne_of_none e h.nB), q.tx, q.nr, q.nf, st _ _ q.at_ (ne_of q.at_ h.hB (by intro z; cases z)), st _ _ q.hf n3, st _ _ q.hw n4, ?_, q.wf, q.wl⟩⟩, h.nw, h.nB, ?_, ?_, ?_, ?_, ?_, ?_, h.bl, h.fok⟩
  · exact Paired.mapP q.ww fun _ _ e => st _ _ e (tB e)
  · intro d hd
    rcases List.mem_cons.mp hd with rfl | z
    · exact e0
    · exact h.nb d z
  · rw [upd_same, List.reverse_cons, List.map_append]
    rfl
  · have nd := h.nd
    simp only [List.nodup_cons, List.mem_cons, not_or] at nd ⊢
    exact ⟨⟨nd.1.1, nd.1.2.1, Ne.symm ef, nd.1.2.2⟩, ⟨nd.2.1.1, Ne.symm ew, nd.2.1.2⟩, ⟨Ne.symm eB, nd.2.2.1⟩, ebs, nd.2.2.2⟩
  · refine .cons ⟨[], by rw [upd_ne eB, upd_same], .nil⟩ ?_
    refine WS.Paired.mapM h.bod fun d hd ss ⟨xs, e1, c⟩ => ⟨xs, st _ _ e1 (nd1 d hd).2.2, ?_⟩
    refine c.mono (fun b' o e' n => st b' o e' fun z => n (.inr (.inr (.inr (.inl z))))) fun b' o e' n => ?_
    rintro (z | z | z | z | z)
    · exact n (.inl z)
    · exact n (.inr (.inl z))
    · exact n (.inr (.inr (.inl z)))
    · exact n (.inr (.inr (.inr (.inl z))))
    · rcases List.mem_cons.mp z with z | z
      · exact ne_of_none e' he z
      · exact n (.inr (.inr (.inr (.inr z))))
  · have l := h.last
    cases bs with
    | nil => cases l
    | cons d bs => rw [List.getLast?_cons_cons]; exact l
  · have := h.bound
    simpa using this
theorem RS.close {d : Addr} {ss : List Step} (h : RS K C H0 H x b p fr F (d :: bs) (ss :: cs)) (hbs : bs ≠ []) : RS K C H0 (upd H x.B (.lst (bs.reverse.map V.ref))) x b p fr F bs cs ∧ ¬ Dm x bs d ∧ ∃ xs, (upd H x.B (.lst (bs.reverse.map V.ref))) d = some (.lst xs) ∧ CodeAt (upd H x.B (.lst (bs.reverse.map V.ref))) (Dm x bs) xs ss := by
  obtain ⟨ps, q⟩ := h.q
  obtain ⟨nd1, n2, n3, n4, n5⟩ := h.ndD
  rw [List.nodup_cons] at n5
  have dd := nd1 d (List.mem_cons_self ..)
  have st : ∀ c o, H c = some o → c ≠ x.B → (upd H x.B (.lst (bs.reverse.map V.ref))) c = some o := fun c o z n => by rw [upd_ne n]; exact z
  have tB : ∀ {c : Addr} {l : List V}, H c = some (.tup l) → c ≠ x.B := fun e => ne_of e h.hB (by intro z; cases z)
  have up : ∀ c, Dm x bs c → Dm x (d :: bs) c := by
    rintro c (z | z | z | z | z)
    · exact .inl z
    · exact .inr (.inl z)
    · exact .inr (.inr (.inl z))
    · exact .inr (.inr (.inr (.inl z)))
    · exact .inr (.inr (.inr (.inr (List.mem_cons_of_mem _ z))))
  have cm : ∀ {ys : List V} {ss : List Step}, CodeAt H (Dm x (d :: bs)) ys ss → CodeAt (upd H x.B (.lst (bs.reverse.map V.ref))) (Dm x bs) ys ss := fun c =>
    c.mono (fun b' o e' n => st b' o e' fun z => n (.inr (.inr (.inr (.inl z))))) fun b' o e' n z => n (up _ z)
  have bod := h.bod
  cases bod with
  | cons r t =>
    obtain ⟨xs, e, c⟩ := r
    refine ⟨⟨⟨ps, ⟨fun c o e => st c o (q.s0 _ _ e) (ne_of_none e h.nB), q.tx, q.nr, q.nf, st _ _ q.at_ (ne_of q.at_ h.hB (by intro z; cases z)), st _ _ q.hf n3, st _ _ q.hw n4, Paired.mapP q.ww fun _ _ e => st _ _ e (tB e), q.wf, q.wl⟩⟩, h.nw, h.nB, fun d' hd' => h.nb d' (List.mem_cons_of_mem _ hd'), upd_same, ?_, ?_, ?_, ?_, h.bl, h.fok⟩, ?_, xs, st _ _ e dd.2.2, cm c⟩
    · have nd := h.nd
      simp only [List.nodup_cons, List.mem_cons, not_or] at nd ⊢
      exact ⟨⟨nd.1.1, nd.1.2.1, nd.1.2.2.2⟩, ⟨nd.2.1.1, nd.2.1.2.2⟩, nd.2.2.1.2, nd.2.2.2.2⟩
    · exact WS.Paired.mapM t fun d' hd' ss ⟨xs, e1, c⟩ => ⟨xs, st _ _ e1 (nd1 d' (List.mem_cons_of_mem _ hd')).2.2, cm c⟩
    · have l := h.last
      cases bs with
      | nil => exact absurd rfl hbs
      | cons d2 bs => rw [List.getLast?_cons_cons] at l; exact l
    · have := h.bound
      rw [List.map_cons, List.sum_cons] at this
      (first | lia | omega)
    · rintro (z | z | z | z | z)
      · exact ne_of e q.at_ (by intro z; cases z) z
      · exact dd.1 z
      · exact dd.2.1 z
      · exact dd.2.2 z
      · exact n5.1 z
end
end WS
end
section
set_option Elab.async false
set_option linter.all false
set_option maxRecDepth 100000
set_option maxHeartbeats 1000000
namespace WS
open PySem PySem.Spec PyProof.Rows L2
open Sy15 (T Val put)
abbrev RSB (K : PySem.W.Frag) (C : Addr) (H0 H : Hp) (x : RA) (b : List Nat) (p : Nat) (F : List Fm) (bs : List Addr) : Prop := RS K C H0 H x b p (frF F) F bs (bods F)
def RSA (K : PySem.W.Frag) (C : Addr) (H0 H : Hp) (x : RA) (b : List Nat) (p : Nat) (F : List Fm) (t : T) (d : Addr) (bs : List Addr) : Prop := ∃ c cs, bods F = c :: cs ∧ RS K C H0 H x b p (frT F t) F (d :: bs) ((c ++ code t) :: cs)
theorem bods_ne (F : List Fm) : ∃ c cs, bods F = c :: cs := by
  induction F with
  | nil => exact ⟨[], [], rfl⟩
  | cons f F ih =>
    obtain ⟨c, cs, e⟩ := ih
    cases f with
    | nt => exact ⟨c, cs, e⟩
    | op => exact ⟨c, cs, e⟩
    | jn o s => exact ⟨c ++ code s, cs, by simp only [bods, e]⟩
    | bd q u => exact ⟨[], _, rfl⟩
theorem bods_len (F : List Fm) : (bods F).length ≤ F.length + 1 := by
  induction F with
  | nil => exact Nat.le_refl _
  | cons f F ih =>
    cases f with
    | nt => exact Nat.le_succ_of_le ih
    | op => exact Nat.le_succ_of_le ih
    | jn o s =>
      obtain ⟨c, cs, e⟩ := bods_ne F
      rw [e] at ih
      simp only [bods, e]
      exact Nat.le_succ_of_le ih
    | bd q u => exact Nat.succ_le_succ ih
theorem fT_frT (F : List Fm) (t : T) : fT (frF F) F t = frT F t := by
  funext u
  unfold fT frT
  rw [Bool.or_comm]
section
variable {P : Program} {w : World} {K : PySem.W.Frag} {mg : Str → Option Value} {base : Heap} {a : Adr}
def sp_read_start (K : PySem.W.Frag) (C : Addr) : Sp := fun vs H Q E => ∃ (H0 : Hp) (x : RA) (b : List Nat) (p : Nat) (F : List Fm) (bs : List Addr) (l : List Nat), vs = [.ref x.r, .int (pk l)] ∧ pk l ≠ 91 ∧ b.drop p = l.tail ∧ RSB K C H0 H x b p F bs ∧ ((bods F).map List.length).sum + F.length + l.length ≤ b.length ∧
  (∀ p' F' bs' H', RSB K C H0 H' x b p' F' bs' → goal F' (b.drop p') = goal F l → (b.drop p').length + F'.length ≤ l.length + F.length → (b.drop p').length < l.length → Q .non H') ∧ (goal F l = none → AllE C H0 x E)
@[reducible] def t_read_start_0 (K : PySem.W.Frag) (a : Adr) (E : XK) (d : Nat) : TS := (tDrop (tBM K "list" rAppend (tFld K (tVar 0) "bodies") (tCons (tLst tNil) tNil)))
@[reducible] def t_read_start_1 (K : PySem.W.Frag) (a : Adr) (E : XK) (d : Nat) : TS := tSeq (tDrop (tBM K "list" rAppend (tFld K (tVar 0) "waiting") (tCons (tTup (tCons (tVar 1) (tCons (tMeth a.C_Reader "take_unknown" (sp_take_unknown K a.C_Reader) [] E (tVar 0) tNil) tNil))) tNil))) (t_read_start_0 K a E d)
@[reducible] def t_read_start_2 (K : PySem.W.Frag) (a : Adr) (E : XK) (d : Nat) : TS := (tDrop (tBM K "list" rAppend (tFld K (tVar 0) "waiting") (tCons (tTup (tCons (tVar 1) (tCons (tC (.int (-1))) tNil))) tNil)))
@[reducible] def t_read_start_3 (K : PySem.W.Frag) (a : Adr) (E : XK) (d : Nat) : TS := (fun _ _ H => E (.ref a.C_NoText) none H)
@[reducible] def t_read_start_4 (K : PySem.W.Frag) (a : Adr) (E : XK) (d : Nat) : TS := (tIfS (tTest (tOp (rIn K false) (tVar 1) (tTup (tCons (tC (.int (33))) (tCons (tC (.int (40))) tNil))))) (t_read_start_2 K a E d) (t_read_start_3 K a E d))
@[reducible] def t_read_start_5 (K : PySem.W.Frag) (a : Adr) (E : XK) (d : Nat) : TS := (tIfS (tTest (tOp (rIn K false) (tVar 1) (tTup (tCons (tC (.int (65))) (tCons (tC (.int (69))) tNil))))) (t_read_start_1 K a E d) (t_read_start_4 K a E d))
theorem ok_read_start (T : Txt K mg a) : FnOk P w K mg base (CXN P w a.C_NoText) 4 a.f_read_start a.d_read_start ["self", "byte"] (sp_read_start K a.C_Reader) := by
  have G_take_unknown : FnOk P w K mg base (CXN P w a.C_NoText) 3 a.f_take_unknown a.d_take_unknown ["self"] (sp_take_unknown K a.C_Reader) := ok_take_unknown T
  refine Fun.okN T.f_read_start sc_read_start (fun vs H Q E h => ?_) (fun cdv A outer s H vs Q E hr h => ?_)
  · obtain ⟨H0, x, b, p, F, bs, l, rfl, _⟩ := h
    rfl
  · obtain ⟨H0, x, b, p, F, bs, l, rfl, h91, el, hs, hb, k1, k2⟩ := h
    refine ⟨_, (pss_one (ps_if (pt_cmpR op_in_seq (pv 1) (pe_tup (pa_cons (pe_gint rfl T.g_ALL) (pa_cons (pe_gint rfl T.g_SOME) pa_nil))) (by with_unfolding_all rfl)) (pss_cons (ps_expr (pe_bm PySem.F.plainAttrs_list PySem.F.slot_list_append PySem.F.type_list_append mt_append (pe_fld (pv 0) (by rfl)) (pa_cons (pe_tup (pa_cons (pv 1) (pa_cons (pe_meth0 (pv 0) T.c_Reader T.h_take_unknown G_take_unknown (hr.mono (by decide)) T.b_take_unknown .nil passN) pa_nil))) pa_nil)))
        (pss_one (ps_expr (pe_bm PySem.F.plainAttrs_list PySem.F.slot_list_append PySem.F.type_list_append mt_append (pe_fld (pv 0) (by rfl)) (pa_cons (pe_lst pa_nil) pa_nil))))) (pss_one (ps_if (pt_cmpR op_in_seq (pv 1) (pe_tup (pa_cons (pe_gint rfl T.g_NOT) (pa_cons (pe_gint rfl T.g_OPENING) pa_nil))) (by with_unfolding_all rfl)) (pss_one (ps_expr (pe_bm PySem.F.plainAttrs_list PySem.F.slot_list_append PySem.F.type_list_append mt_append (pe_fld (pv 0) (by rfl)) (pa_cons (pe_tup (pa_cons (pv 1) (pa_cons (pe_gint rfl T.g_NO_UNKNOWN) pa_nil))) pa_nil)))) (pss_one (ps_raiseN T.exc rfl T.m_NoText)))))), ?_⟩
    show (t_read_start_5 K a E 0 : TS) _ _ _
    obtain ⟨ps, hq⟩ := hs.q
    have hbl := hs.bl
    have wl := hs.wlen hq
    first | refine ⟨_, rfl, by show 2 ≤ sizeLine; decide, fun tp htp => inS (SqT.of upd_same) rfl rfl (tk ?_)⟩ | refine ⟨_, rfl, by show 2 ≤ sizeLine; decide, fun tp htp => ⟨tp, _, rfl, .inr (SqT.of upd_same), rfl, rfl, _, rfl, ?_⟩⟩
    have sT : Same H (upd H tp (.tup [.int 65, .int 69])) := same_new htp
    have q1 := hq.same sT
    have h1 := hs.keepRF q1 (Same.rf sT x) hs.bound
    generalize upd H tp (.tup [.int 65, .int 69]) = H1 at q1 h1
    by_cases hA : pk l = 65 ∨ pk l = 69
    · refine ifB (by rcases hA with z | z <;> rw [z] <;> rfl) ?_
      obtain ⟨c, r, rfl, hc⟩ : ∃ c r, l = c :: r ∧ (c = 65 ∨ c = 69) := by
        rcases hA with z | z
        · obtain ⟨r, e⟩ := pk_eq (c := 65) z
          exact ⟨65, r, e, .inl rfl⟩
        · obtain ⟨r, e⟩ := pk_eq (c := 69) z
          exact ⟨69, r, e, .inr rfl⟩
      have el' : b.drop p = r := el
      first | refine fldV rfl q1.at_ T.c_Reader T.a_Reader_waiting rfl ⟨.inl ⟨rfl, _, SqL.of q1.hw⟩, ?_⟩ | refine ⟨_, rfl, x.r, _, x.dx, _, _, rfl, q1.at_, T.c_Reader, T.a_Reader_waiting, rfl, .inl ⟨rfl, _, SqL.of q1.hw⟩, ?_⟩
      first | refine ⟨_, rfl, methV rfl q1.at_ rfl ⟨x, b, p, rfl, q1.rp, ?_, ?_⟩⟩ | refine ⟨_, rfl, _, rfl, x.r, x.dx, _, rfl, q1.at_, rfl, x, b, p, rfl, q1.rp, ?_, ?_⟩
      rotate_left
      · intro no
        refine AllE.mv (k2 ?_) q1 _
        rw [el'] at no
        cases r with
        | nil => exact goal_bind1 F hc
        | cons e r =>
          refine goal_bind0 F r hc ?_
          cases hu : Sy15.unknown e with
          | none => rfl
          | some u => exact (no e u r rfl hu).elim
      intro e u r2 er hu
      rw [el'] at er
      subst er
      rw [List.length_cons, List.length_cons] at hb
      have e2 := drop1 el'
      have q2 := q1.mv (p + 1)
      have s2 : SameRF x H1 (x.mv a.C_Reader H1 (p + 1)) := SameRF.mv (SameRF.refl x H1) _ _
      generalize x.mv a.C_Reader H1 (p + 1) = H2 at q2 s2
      have h2 := h1.keepRF q2 s2 (by rw [e2]; (first | lia | omega))
      refine ⟨by show 2 ≤ sizeLine; decide, fun tq htq => ?_⟩
      have s3 : Same H2 (upd H2 tq (.tup [.int (pk (c :: e :: r2)), .int (u : Nat)])) := same_new htq
      have t3 : (upd H2 tq (.tup [.int (pk (c :: e :: r2)), .int (u : Nat)])) tq = some (.tup [.int (fmP (.bd c u)).1, .int (fmP (.bd c u)).2]) := upd_same
      have q3 := q2.same s3
      have h3 := h2.keepRF q3 (Same.rf s3 x) h2.bound
      generalize upd H2 tq (.tup [.int (pk (c :: e :: r2)), .int (u : Nat)]) = H3 at t3 q3 h3
      first | refine apd q3.hw (line_big (by rw [List.length_map]; (first | lia | omega))) ?_ | refine ⟨x.w, _, _, rfl, rfl, q3.hw, line_big (by rw [List.length_map]; (first | lia | omega)), ?_⟩
      have h4 := h3.wait q3 t3 hc (by rw [e2]; (first | lia | omega))
      obtain ⟨ps4, q4⟩ := h4.q
      generalize upd H3 x.w (.lst (ps.map V.ref ++ [.ref tq])) = H4 at h4 q4
      have lbs : bs.length ≤ 1000 := by
        have hl := Paired.length h4.bod
        have := bods_len F
        (first | lia | omega)
      first | refine fldV rfl q4.at_ T.c_Reader T.a_Reader_bodies rfl ⟨.inl ⟨rfl, _, SqL.of h4.hB⟩, ?_⟩ | refine ⟨_, rfl, x.r, _, x.dx, _, _, rfl, q4.at_, T.c_Reader, T.a_Reader_bodies, rfl, .inl ⟨rfl, _, SqL.of h4.hB⟩, ?_⟩
      refine ⟨Nat.zero_le _, fun e9 he9 => ?_⟩
      have h5 := h4.open_ he9
      have nB := h4.there he9
      have hB5 : (upd H4 e9 (.lst [])) x.B = some (.lst (bs.reverse.map V.ref)) := by
        rw [upd_ne (fun z => nB (.inr (.inr (.inr (.inl z.symm)))))]
        exact h4.hB
      first | refine apd hB5 (line_big (by rw [List.length_map, List.length_reverse]; (first | lia | omega))) ?_ | refine ⟨x.B, _, _, rfl, rfl, hB5, line_big (by rw [List.length_map, List.length_reverse]; (first | lia | omega)), ?_⟩
      refine k1 (p + 1) (.bd c u :: F) (e9 :: bs) _ h5 ?_ ?_ ?_
      · rw [e2]
        exact (goal_bind F r2 hc hu).symm
      · rw [e2]
        simp only [List.length_cons]
        (first | lia | omega)
      · rw [e2]
        simp only [List.length_cons]
        (first | lia | omega)
    · refine ifBF ?_ ?_
      · show (((65 : Int) == pk l) || (((69 : Int) == pk l) || false)) = false
        simp only [Bool.or_false, Bool.or_eq_false_iff, beq_eq_false_iff_ne]
        (first | lia | omega)
      first | refine ⟨_, rfl, by show 2 ≤ sizeLine; decide, fun tp2 htp2 => inS (SqT.of upd_same) rfl rfl (tk ?_)⟩ | refine ⟨_, rfl, by show 2 ≤ sizeLine; decide, fun tp2 htp2 => ⟨tp2, _, rfl, .inr (SqT.of upd_same), rfl, rfl, _, rfl, ?_⟩⟩
      have sT2 : Same H1 (upd H1 tp2 (.tup [.int 33, .int 40])) := same_new htp2
      have q2 := q1.same sT2
      have h2 := h1.keepRF q2 (Same.rf sT2 x) h1.bound
      generalize upd H1 tp2 (.tup [.int 33, .int 40]) = H2 at q2 h2
      by_cases hN : pk l = 33 ∨ pk l = 40
      · refine ifB (by rcases hN with z | z <;> rw [z] <;> rfl) ?_
        obtain ⟨c, r, f, rfl, hf, hgo, hfr, hbo, hok⟩ : ∃ (c : Nat) (r : List Nat) (f : Fm), l = c :: r ∧ fmP f = (((c : Nat) : Int), -1) ∧ goal F (c :: r) = goal (f :: F) r ∧ frF (f :: F) = frF F ∧ bods (f :: F) = bods F ∧ OkF f := by
          rcases hN with z | z
          · obtain ⟨r, e⟩ := pk_eq (c := 33) z
            exact ⟨33, r, .nt, e, rfl, goal_not F r, rfl, rfl, trivial⟩
          · obtain ⟨r, e⟩ := pk_eq (c := 40) z
            exact ⟨40, r, .op, e, rfl, goal_open F r, rfl, rfl, trivial⟩
        have el' : b.drop p = r := el
        rw [List.length_cons] at hb
        first | refine fldV rfl q2.at_ T.c_Reader T.a_Reader_waiting rfl ⟨.inl ⟨rfl, _, SqL.of q2.hw⟩, ?_⟩ | refine ⟨_, rfl, x.r, _, x.dx, _, _, rfl, q2.at_, T.c_Reader, T.a_Reader_waiting, rfl, .inl ⟨rfl, _, SqL.of q2.hw⟩, ?_⟩
        refine ⟨_, rfl, by show 2 ≤ sizeLine; decide, fun tq htq => ?_⟩
        have s3 : Same H2 (upd H2 tq (.tup [.int (pk (c :: r)), .int (-1)])) := same_new htq
        have t3 : (upd H2 tq (.tup [.int (pk (c :: r)), .int (-1)])) tq = some (.tup [.int (fmP f).1, .int (fmP f).2]) := by rw [upd_same, hf]; rfl
        have q3 := q2.same s3
        have h3 := h2.keepRF q3 (Same.rf s3 x) h2.bound
        generalize upd H2 tq (.tup [.int (pk (c :: r)), .int (-1)]) = H3 at t3 q3 h3
        first | refine apd q3.hw (line_big (by rw [List.length_map]; (first | lia | omega))) ?_ | refine ⟨x.w, _, _, rfl, rfl, q3.hw, line_big (by rw [List.length_map]; (first | lia | omega)), ?_⟩
        have h4 := h3.wait q3 t3 hok (by rw [el']; (first | lia | omega))
        refine k1 p (f :: F) bs _ ?_ ?_ ?_ ?_
        · show RS K a.C_Reader H0 _ x b p (frF (f :: F)) (f :: F) bs (bods (f :: F))
          rw [hfr, hbo]
          exact h4
        · rw [el', hgo]
        · rw [el']
          simp only [List.length_cons]
          (first | lia | omega)
        · rw [el']
          exact Nat.lt_succ_self _
      · refine ifBF ?_ ?_
        · show (((33 : Int) == pk l) || (((40 : Int) == pk l) || false)) = false
          simp only [Bool.or_false, Bool.or_eq_false_iff, beq_eq_false_iff_ne]
          (first | lia | omega)
        · refine AllE.at_ (k2 ?_) q2
          cases l with
          | nil => exact goal_nil F
          | cons c r =>
            have e2 : pk (c :: r) = ((c : Nat) : Int) := rfl
            rw [e2] at hA hN h91
            exact goal_else F r (by (first | lia | omega)) (by (first | lia | omega)) (by (first | lia | omega)) (by (first | lia | omega)) (by (first | lia | omega))
def sp_read_to_claim (K : PySem.W.Frag) (C : Addr) : Sp := fun vs H Q E => ∃ (H0 : Hp) (x : RA) (b : List Nat) (p : Nat) (F : List Fm) (bs : List Addr), vs = [.ref x.r] ∧ RSB K C H0 H x b p F bs ∧
  (∀ p' F' t d bs' H', RSA K C H0 H' x b p' F' t d bs' → fin F' t (b.drop p') = goal F (b.drop p) → (b.drop p').length + F'.length < (b.drop p).length + F.length → Q .non H') ∧ (goal F (b.drop p) = none → AllE C H0 x E)
@[reducible] def t_read_to_claim_0 (K : PySem.W.Frag) (a : Adr) (E : XK) (d : Nat) : TS := (tDrop (tMeth a.C_Reader "read_claim" (sp_read_claim K a.C_Reader) [] E (tVar 0) tNil))
@[reducible] def t_read_to_claim_1 (K : PySem.W.Frag) (a : Adr) (E : XK) (d : Nat) : TS := (tAsg (tMeth a.C_Reader "take" (sp_take K a.C_Reader) [] E0 (tVar 0) tNil) (gName 1))
@[reducible] def t_read_to_claim_2 (K : PySem.W.Frag) (a : Adr) (E : XK) (d : Nat) : TS := tSeq (tDrop (tMeth a.C_Reader "read_start" (sp_read_start K a.C_Reader) [] E (tVar 0) (tCons (tVar 1) tNil))) (t_read_to_claim_1 K a E d)
@[reducible] def t_read_to_claim_3 (K : PySem.W.Frag) (a : Adr) (E : XK) (d : Nat) : TS := tSeq (tWhile (tTest (tOp rNe (tVar 1) (tC (.int (91))))) (t_read_to_claim_2 K a E d)) (t_read_to_claim_0 K a E d)
@[reducible] def t_read_to_claim_4 (K : PySem.W.Frag) (a : Adr) (E : XK) (d : Nat) : TS := tSeq (tAsg (tMeth a.C_Reader "take" (sp_take K a.C_Reader) [] E0 (tVar 0) tNil) (gName 1)) (t_read_to_claim_3 K a E d)
theorem ok_read_to_claim (T : Txt K mg a) : FnOk P w K mg base (CXN P w a.C_NoText) 8 a.f_read_to_claim a.d_read_to_claim ["self"] (sp_read_to_claim K a.C_Reader) := by
  have G_take : FnOk P w K mg base CX0 2 a.f_take a.d_take ["self"] (sp_take K a.C_Reader) := ok_take T
  have G_read_start : FnOk P w K mg base (CXN P w a.C_NoText) 4 a.f_read_start a.d_read_start ["self", "byte"] (sp_read_start K a.C_Reader) := ok_read_start T
  have G_read_claim : FnOk P w K mg base (CXN P w a.C_NoText) 7 a.f_read_claim a.d_read_claim ["self"] (sp_read_claim K a.C_Reader) := ok_read_claim T
  refine Fun.okN T.f_read_to_claim sc_read_to_claim (fun vs H Q E h => ?_) (fun cdv A outer s H vs Q E hr h => ?_)
  · obtain ⟨H0, x, b, p, F, bs, rfl, _⟩ := h
    rfl
  · obtain ⟨H0, x, b, p, F, bs, rfl, hs, k1, k2⟩ := h
    refine ⟨_, (pss_cons (ps_set (i := 1) sc_read_to_claim.nd rfl (Or.inl rfl) (pe_meth0 (pv 0) T.c_Reader T.h_take G_take (hr.mono (by decide)) T.b_take .nil pass0))
        (pss_cons (ps_while PassesOwn.leaving (pt_cmpR op_ne (pv 1) (pe_gint rfl T.g_CLAIM_START) (nomark _)) (pss_cons (ps_expr (pe_meth (pv 0) T.c_Reader T.h_read_start G_read_start (hr.mono (by decide)) T.b_read_start .nil passN (pa_cons (pv 1) pa_nil)))
        (pss_one (ps_set (i := 1) sc_read_to_claim.nd rfl (Or.inl rfl) (pe_meth0 (pv 0) T.c_Reader T.h_take G_take (hr.mono (by decide)) T.b_take .nil pass0)))))
        (pss_one (ps_expr (pe_meth0 (pv 0) T.c_Reader T.h_read_claim G_read_claim (hr.mono (by decide)) T.b_read_claim .nil passN))))), ?_⟩
    show (t_read_to_claim_4 K a E 0 : TS) _ _ _
    have tl : ∀ q, b.drop (q + 1) = (b.drop q).tail := fun q => by rw [List.tail_drop]
    have tle : ∀ q, (b.drop (q + 1)).length ≤ (b.drop q).length := fun q => by rw [List.length_drop, List.length_drop]; (first | lia | omega)
    obtain ⟨ps, hq⟩ := hs.q
    have bd0 := hs.bound
    first | refine methV rfl hq.at_ rfl ⟨x, b, p, rfl, hq.rp, ?_⟩ | refine ⟨_, rfl, x.r, x.dx, _, rfl, hq.at_, rfl, x, b, p, rfl, hq.rp, ?_⟩
    have q1 := hq.mv (p + 1)
    have s1 : SameRF x H (x.mv a.C_Reader H (p + 1)) := SameRF.mv (SameRF.refl x H) _ _
    generalize x.mv a.C_Reader H (p + 1) = H1 at q1 s1
    have h1 := hs.keepRF q1 s1 (by have := tle p; (first | lia | omega))
    refine ⟨fun c σ H' => ∃ (l : List Nat) (p' : Nat) (F' : List Fm) (bs' : List Addr), σ = [some (.ref x.r), some (.int (pk l))] ∧ l.length = c ∧ b.drop p' = l.tail ∧ RSB K a.C_Reader H0 H' x b p' F' bs' ∧ ((bods F').map List.length).sum + F'.length + l.length ≤ b.length ∧ goal F' l = goal F (b.drop p) ∧ l.length + F'.length ≤ (b.drop p).length + F.length,
      ⟨_, b.drop p, p + 1, F, bs, rfl, rfl, tl p, h1, bd0, rfl, Nat.le_refl _⟩, ?_⟩
    rintro c σ H' ⟨l, p', F', bs', rfl, rfl, el, h2, hb2, hg, hm⟩
    refine ⟨_, rfl, rfl, _, rfl, ?_⟩
    obtain ⟨ps2, q2⟩ := h2.q
    by_cases h91 : pk l = 91
    · refine ifNeF h91 ?_
      obtain ⟨r, rfl⟩ := pk_eq (c := 91) h91
      have el' : b.drop p' = r := el
      rw [goal_claim] at hg
      rw [List.length_cons] at hm hb2
      obtain ⟨c0, cs0, eb⟩ := bods_ne F'
      have h3 : RS K a.C_Reader H0 H' x b p' (frF F') F' bs' (c0 :: cs0) := eb ▸ h2
      obtain ⟨d, bs0, rfl⟩ : ∃ d bs0, bs' = d :: bs0 := by
        have := h3.bod
        cases this with
        | cons r t => exact ⟨_, _, rfl⟩
      first | refine methV rfl q2.at_ rfl ⟨H0, x, b, p', frF F', F', d, bs0, c0, cs0, rfl, h3, ?_, ?_⟩ | refine ⟨_, rfl, x.r, x.dx, _, rfl, q2.at_, rfl, H0, x, b, p', frF F', F', d, bs0, c0, cs0, rfl, h3, ?_, ?_⟩
      · intro t r3 p3 H3 hat e3 h4
        rw [el'] at hat
        rw [hat] at hg
        have := Sy15.Bytes
        have la := atom_len hat
        refine k1 p3 F' t d bs0 H3 ⟨c0, cs0, eb, ?_⟩ ?_ ?_
        · rw [← fT_frT]
          exact h4
        · rw [e3]
          exact hg
        · rw [e3]
          (first | lia | omega)
      · intro no
        rw [el'] at no
        rw [no] at hg
        exact k2 hg.symm
    · refine ifNeT h91 ?_
      refine ⟨_, fun σ' H' q => q, ?_⟩
      first | refine methV rfl q2.at_ rfl ⟨_, rfl, H0, x, b, p', F', bs', l, rfl, h91, el, h2, hb2, ?_, ?_⟩ | refine ⟨_, rfl, x.r, x.dx, _, rfl, q2.at_, rfl, _, rfl, H0, x, b, p', F', bs', l, rfl, h91, el, h2, hb2, ?_, ?_⟩
      · intro p3 F3 bs3 H3 h3 hg3 hm3 hl3
        obtain ⟨ps3, q3⟩ := h3.q
        first | refine methV rfl q3.at_ rfl ⟨x, b, p3, rfl, q3.rp, ?_⟩ | refine ⟨_, rfl, x.r, x.dx, _, rfl, q3.at_, rfl, x, b, p3, rfl, q3.rp, ?_⟩
        have q4 := q3.mv (p3 + 1)
        have s4 : SameRF x H3 (x.mv a.C_Reader H3 (p3 + 1)) := SameRF.mv (SameRF.refl x H3) _ _
        generalize x.mv a.C_Reader H3 (p3 + 1) = H4 at q4 s4
        have bd3 := h3.bound
        have h4 := h3.keepRF q4 s4 (by have := tle p3; (first | lia | omega))
        exact ⟨(b.drop p3).length, hl3, b.drop p3, p3 + 1, F3, bs3, rfl, rfl, tl p3, h4, bd3, hg3.trans hg, by (first | lia | omega)⟩
      · intro no
        rw [no] at hg
        exact k2 hg.symm
def sp_read_join (K : PySem.W.Frag) (C : Addr) : Sp := fun vs H Q E => ∃ (H0 : Hp) (x : RA) (b : List Nat) (p : Nat) (F : List Fm) (t : T) (d : Addr) (bs : List Addr), vs = [.ref x.r] ∧ RSA K C H0 H x b p F t d bs ∧
  (∀ p' F' t' d' bs' H', RSA K C H0 H' x b p' F' t' d' bs' → fin F' t' (b.drop p') = fin (.op :: F) t (b.drop p) → (b.drop p').length + F'.length < (b.drop p).length + F.length → Q .non H') ∧ (fin (.op :: F) t (b.drop p) = none → AllE C H0 x E)
@[reducible] def t_read_join_0 (K : PySem.W.Frag) (a : Adr) (E : XK) (d : Nat) : TS := (tDrop (tMeth a.C_Reader "read_to_claim" (sp_read_to_claim K a.C_Reader) [] E (tVar 0) tNil))
@[reducible] def t_read_join_1 (K : PySem.W.Frag) (a : Adr) (E : XK) (d : Nat) : TS := tSeq (tDrop (tBM K "list" rAppend (tFld K (tVar 0) "waiting") (tCons (tTup (tCons (tVar 1) (tCons (tC (.int (-1))) tNil))) tNil))) (t_read_join_0 K a E d)
@[reducible] def t_read_join_2 (K : PySem.W.Frag) (a : Adr) (E : XK) (d : Nat) : TS := (fun _ _ H => E (.ref a.C_NoText) none H)
@[reducible] def t_read_join_3 (K : PySem.W.Frag) (a : Adr) (E : XK) (d : Nat) : TS := tSeq (tIfS (tTest (tOp (rIn K true) (tVar 1) (tTup (tCons (tC (.int (38))) (tCons (tC (.int (124))) (tCons (tC (.int (62))) tNil)))))) (t_read_join_2 K a E d) tNext) (t_read_join_1 K a E d)
@[reducible] def t_read_join_4 (K : PySem.W.Frag) (a : Adr) (E : XK) (d : Nat) : TS := tSeq (tAsg (tMeth a.C_Reader "take" (sp_take K a.C_Reader) [] E0 (tVar 0) tNil) (gName 1)) (t_read_join_3 K a E d)
theorem ok_read_join (T : Txt K mg a) : FnOk P w K mg base (CXN P w a.C_NoText) 9 a.f_read_join a.d_read_join ["self"] (sp_read_join K a.C_Reader) := by
  have G_take : FnOk P w K mg base CX0 2 a.f_take a.d_take ["self"] (sp_take K a.C_Reader) := ok_take T
  have G_read_to_claim : FnOk P w K mg base (CXN P w a.C_NoText) 8 a.f_read_to_claim a.d_read_to_claim ["self"] (sp_read_to_claim K a.C_Reader) := ok_read_to_claim T
  refine Fun.okN T.f_read_join sc_read_join (fun vs H Q E h => ?_) (fun cdv A outer s H vs Q E hr h => ?_)
  · obtain ⟨H0, x, b, p, F, t, d, bs, rfl, _⟩ := h
    rfl
  · obtain ⟨H0, x, b, p, F, t, d, bs, rfl, ⟨c0, cs0, eb, hs⟩, k1, k2⟩ := h
    refine ⟨_, (pss_cons (ps_set (i := 1) sc_read_join.nd rfl (Or.inl rfl) (pe_meth0 (pv 0) T.c_Reader T.h_take G_take (hr.mono (by decide)) T.b_take .nil pass0))
        (pss_cons (ps_if (pt_cmpR op_notIn_seq (pv 1) (pe_tup (pa_cons (pe_gint rfl T.g_BOTH) (pa_cons (pe_gint rfl T.g_EITHER) (pa_cons (pe_gint rfl T.g_IMPLIES) pa_nil)))) (by with_unfolding_all rfl)) (pss_one (ps_raiseN T.exc rfl T.m_NoText)) pss_nil)
        (pss_cons (ps_expr (pe_bm PySem.F.plainAttrs_list PySem.F.slot_list_append PySem.F.type_list_append mt_append (pe_fld (pv 0) (by rfl)) (pa_cons (pe_tup (pa_cons (pv 1) (pa_cons (pe_gint rfl T.g_NO_UNKNOWN) pa_nil))) pa_nil)))
        (pss_one (ps_expr (pe_meth0 (pv 0) T.c_Reader T.h_read_to_claim G_read_to_claim (hr.mono (by decide)) T.b_read_to_claim .nil passN)))))), ?_⟩
    show (t_read_join_4 K a E 0 : TS) _ _ _
    obtain ⟨ps, hq⟩ := hs.q
    have bd0 := hs.bound
    have hbl := hs.bl
    have tle : ∀ q, (b.drop (q + 1)).length ≤ (b.drop q).length := fun q => by rw [List.length_drop, List.length_drop]; (first | lia | omega)
    first | refine methV rfl hq.at_ rfl ⟨x, b, p, rfl, hq.rp, ?_⟩ | refine ⟨_, rfl, x.r, x.dx, _, rfl, hq.at_, rfl, x, b, p, rfl, hq.rp, ?_⟩
    have q1 := hq.mv (p + 1)
    have s1 : SameRF x H (x.mv a.C_Reader H (p + 1)) := SameRF.mv (SameRF.refl x H) _ _
    generalize x.mv a.C_Reader H (p + 1) = H1 at q1 s1
    have h1 := hs.keepRF q1 s1 (by have := tle p; (first | lia | omega))
    first | refine ⟨_, rfl, by show 3 ≤ sizeLine; decide, fun tp htp => inS (SqT.of upd_same) rfl rfl (tk ?_)⟩ | refine ⟨_, rfl, by show 3 ≤ sizeLine; decide, fun tp htp => ⟨tp, _, rfl, .inr (SqT.of upd_same), rfl, rfl, _, rfl, ?_⟩⟩
    have sT : Same H1 (upd H1 tp (.tup [.int 38, .int 124, .int 62])) := same_new htp
    have q2 := q1.same sT
    have h2 := h1.keepRF q2 (Same.rf sT x) h1.bound
    generalize upd H1 tp (.tup [.int 38, .int 124, .int 62]) = H2 at q2 h2
    have iv : inV (.int (pk (b.drop p))) [.int 38, .int 124, .int 62] = ((38 == pk (b.drop p)) || ((124 == pk (b.drop p)) || ((62 == pk (b.drop p)) || false))) := rfl
    by_cases hj : pk (b.drop p) = 38 ∨ pk (b.drop p) = 124 ∨ pk (b.drop p) = 62
    · refine ifBF (by show (!inV (.int (pk (b.drop p))) [.int 38, .int 124, .int 62]) = false; rw [iv]; rcases hj with z | z | z <;> rw [z] <;> rfl) ?_
      obtain ⟨o, r, e, ho⟩ : ∃ o r, b.drop p = o :: r ∧ isJ o := by
        rcases hj with z | z | z
        · obtain ⟨r, e⟩ := pk_eq (c := 38) z
          exact ⟨38, r, e, .inl rfl⟩
        · obtain ⟨r, e⟩ := pk_eq (c := 124) z
          exact ⟨124, r, e, .inr (.inl rfl)⟩
        · obtain ⟨r, e⟩ := pk_eq (c := 62) z
          exact ⟨62, r, e, .inr (.inr rfl)⟩
      have e1 := drop1 e
      have hfin := fin_open F t r ho
      have wl := h2.wlen q2
      rw [e, List.length_cons] at bd0
      first | refine fldV rfl q2.at_ T.c_Reader T.a_Reader_waiting rfl ⟨.inl ⟨rfl, _, SqL.of q2.hw⟩, ?_⟩ | refine ⟨_, rfl, x.r, _, x.dx, _, _, rfl, q2.at_, T.c_Reader, T.a_Reader_waiting, rfl, .inl ⟨rfl, _, SqL.of q2.hw⟩, ?_⟩
      refine ⟨_, rfl, by show 2 ≤ sizeLine; decide, fun tq htq => ?_⟩
      have epk : pk (b.drop p) = ((o : Nat) : Int) := by rw [e]; rfl
      have s3 : Same H2 (upd H2 tq (.tup [.int (pk (b.drop p)), .int (-1)])) := same_new htq
      have t3 : (upd H2 tq (.tup [.int (pk (b.drop p)), .int (-1)])) tq = some (.tup [.int (fmP (.jn o t)).1, .int (fmP (.jn o t)).2]) := by
        rw [upd_same, epk]
        rfl
      have q3 := q2.same s3
      have h3 := h2.keepRF q3 (Same.rf s3 x) h2.bound
      generalize upd H2 tq (.tup [.int (pk (b.drop p)), .int (-1)]) = H3 at t3 q3 h3
      first | refine apd q3.hw (line_big (by rw [List.length_map]; (first | lia | omega))) ?_ | refine ⟨x.w, _, _, rfl, rfl, q3.hw, line_big (by rw [List.length_map]; (first | lia | omega)), ?_⟩
      have h4 := h3.wait q3 t3 ho (by rw [e1]; (first | lia | omega))
      obtain ⟨ps4, q4⟩ := h4.q
      generalize upd H3 x.w (.lst (ps.map V.ref ++ [.ref tq])) = H4 at h4 q4
      have eb4 : bods (.jn o t :: F) = (c0 ++ code t) :: cs0 := by simp only [bods, eb]
      have h5 : RSB K a.C_Reader H0 H4 x b (p + 1) (.jn o t :: F) (d :: bs) := by
        show RS K a.C_Reader H0 H4 x b (p + 1) (frF (.jn o t :: F)) (.jn o t :: F) (d :: bs) (bods (.jn o t :: F))
        rw [eb4]
        exact h4
      first | refine methV rfl q4.at_ rfl ⟨H0, x, b, p + 1, .jn o t :: F, d :: bs, rfl, h5, ?_, ?_⟩ | refine ⟨_, rfl, x.r, x.dx, _, rfl, q4.at_, rfl, H0, x, b, p + 1, .jn o t :: F, d :: bs, rfl, h5, ?_, ?_⟩
      · intro p' F' t' d' bs' H' hA hf hm
        refine k1 p' F' t' d' bs' H' hA ?_ ?_
        · rw [hf, e1, e, hfin]
        · rw [e1, List.length_cons] at hm
          rw [e, List.length_cons]
          (first | lia | omega)
      · intro no
        refine k2 ?_
        rw [e, hfin, ← e1]
        exact no
    · refine ifB ?_ ?_
      · show (!inV (.int (pk (b.drop p))) [.int 38, .int 124, .int 62]) = true
        rw [iv]
        simp only [Bool.or_false, Bool.not_eq_true', Bool.or_eq_false_iff, beq_eq_false_iff_ne]
        (first | lia | omega)
      · refine AllE.at_ (k2 ?_) q2
        cases hl : b.drop p with
        | nil => rfl
        | cons o r =>
          rw [hl] at hj
          refine fin_open0 F t r fun z => hj ?_
          have e2 : pk (o :: r) = ((o : Nat) : Int) := rfl
          rw [e2]
          unfold isJ at z
          (first | lia | omega)
end
end WS
end
section
set_option Elab.async false
set_option linter.all false
set_option maxRecDepth 100000
set_option maxHeartbeats 1000000
namespace WS
open PySem PySem.Spec PyProof.Rows L2
open Sy15 (T Val put)
theorem bl_ints (b : List Nat) : bl b = (b.map fun n : Nat => (n : Int)).map V.int := by
  unfold bl
  rw [List.map_map]
  rfl
theorem cnt (b : List Nat) (k : Nat) : (b.map fun n : Nat => (n : Int)).countP (fun i : Int => decide (i = ((k : Nat) : Int))) = (b.filter fun c => c == k).length := by
  rw [List.countP_map, List.countP_eq_length_filter]
  congr 1
  refine congrArg (fun f => b.filter f) ?_
  funext c
  show decide (((c : Nat) : Int) = (k : Nat)) = (c == k)
  rw [Bool.beq_eq_decide_eq]
  exact decide_eq_decide.mpr Int.ofNat_inj
theorem cnt2 (b : List Nat) : (b.filter fun c => c == 65 || c == 69).length = (b.filter fun c => c == 65).length + (b.filter fun c => c == 69).length := by
  induction b with
  | nil => rfl
  | cons c b ih =>
    by_cases h1 : c = 65
    · subst h1
      simp only [List.filter_cons]
      simp
      (first | lia | omega)
    · by_cases h2 : c = 69
      · subst h2
        simp only [List.filter_cons]
        simp
        (first | lia | omega)
      · simp only [List.filter_cons, h1, h2]
        simp [h1, h2]
        (first | lia | omega)
section
variable {P : Program} {w : World} {K : PySem.W.Frag} {mg : Str → Option Value} {base : Heap} {a : Adr}
def sp_go_on (K : PySem.W.Frag) (C : Addr) : Sp := fun vs H Q E => ∃ (H0 : Hp) (x : RA) (b : List Nat) (p : Nat) (f : Fm) (F : List Fm) (t : T) (d : Addr) (bs : List Addr), vs = [.ref x.r] ∧ RSA K C H0 H x b p (f :: F) t d bs ∧
  (∀ p' F' t' d' bs' H', RSA K C H0 H' x b p' F' t' d' bs' → fin F' t' (b.drop p') = fin (f :: F) t (b.drop p) → (b.drop p').length + F'.length < (b.drop p).length + (F.length + 1) → Q .non H') ∧ (fin (f :: F) t (b.drop p) = none → AllE C H0 x E)
@[reducible] def t_go_on_behind_text_0 (K : PySem.W.Frag) (a : Adr) (E : XK) (d : Nat) : TS := (tDrop (tMeth a.C_Reader "read_join" (sp_read_join K a.C_Reader) [] E (tVar 0) tNil))
@[reducible] def t_go_on_behind_text_1 (K : PySem.W.Frag) (a : Adr) (E : XK) (d : Nat) : TS := (tDrop (tBM K "list" rAppend (tOp (rIxL K) (tFld K (tVar 0) "bodies") (tUn (rU fun i => .int (-i)) (tC (.int 1)))) (tCons (tTup (tCons (tVar 2) (tCons (tOp (rIxT K) (tVar 1) (tC (.int 1))) (tCons (tVar 3) tNil)))) tNil)))
@[reducible] def t_go_on_behind_text_2 (K : PySem.W.Frag) (a : Adr) (E : XK) (d : Nat) : TS := tSeq (tAsg (tBM0 K "list" rPop (tFld K (tVar 0) "bodies")) (gName 3)) (t_go_on_behind_text_1 K a E d)
@[reducible] def t_go_on_behind_text_3 (K : PySem.W.Frag) (a : Adr) (E : XK) (d : Nat) : TS := (tDrop (tBM K "list" rAppend (tOp (rIxL K) (tFld K (tVar 0) "bodies") (tUn (rU fun i => .int (-i)) (tC (.int 1)))) (tCons (tTup (tCons (tVar 2) tNil)) tNil)))
@[reducible] def t_go_on_behind_text_4 (K : PySem.W.Frag) (a : Adr) (E : XK) (d : Nat) : TS := (tDrop (tMeth a.C_Reader "take_just" (sp_take_just K a.C_Reader) [] E (tVar 0) (tCons (tC (.int (41))) tNil)))
@[reducible] def t_go_on_behind_text_5 (K : PySem.W.Frag) (a : Adr) (E : XK) (d : Nat) : TS := tSeq (tIfS (tTest (tOp rNe (tVar 2) (tC (.int (33))))) (t_go_on_behind_text_4 K a E d) tNext) (t_go_on_behind_text_3 K a E d)
@[reducible] def t_go_on_behind_text_6 (K : PySem.W.Frag) (a : Adr) (E : XK) (d : Nat) : TS := (tIfS (tTest (tOp (rIn K false) (tVar 2) (tTup (tCons (tC (.int (65))) (tCons (tC (.int (69))) tNil))))) (t_go_on_behind_text_2 K a E d) (t_go_on_behind_text_5 K a E d))
@[reducible] def t_go_on_behind_text_7 (K : PySem.W.Frag) (a : Adr) (E : XK) (d : Nat) : TS := (tIfS (tTest (tOp rEq (tVar 2) (tC (.int (40))))) (t_go_on_behind_text_0 K a E d) (t_go_on_behind_text_6 K a E d))
@[reducible] def t_go_on_behind_text_8 (K : PySem.W.Frag) (a : Adr) (E : XK) (d : Nat) : TS := tSeq (tAsg (tOp (rIxT K) (tVar 1) (tC (.int 0))) (gName 2)) (t_go_on_behind_text_7 K a E d)
@[reducible] def t_go_on_behind_text_9 (K : PySem.W.Frag) (a : Adr) (E : XK) (d : Nat) : TS := tSeq (tAsg (tBM0 K "list" rPop (tFld K (tVar 0) "waiting")) (gName 1)) (t_go_on_behind_text_8 K a E d)
theorem ok_go_on_behind_text (T : Txt K mg a) : FnOk P w K mg base (CXN P w a.C_NoText) 10 a.f_go_on_behind_text a.d_go_on_behind_text ["self"] (sp_go_on K a.C_Reader) := by
  have G_take_just : FnOk P w K mg base (CXN P w a.C_NoText) 3 a.f_take_just a.d_take_just ["self", "byte"] (sp_take_just K a.C_Reader) := ok_take_just T
  have G_read_join : FnOk P w K mg base (CXN P w a.C_NoText) 9 a.f_read_join a.d_read_join ["self"] (sp_read_join K a.C_Reader) := ok_read_join T
  refine Fun.okN T.f_go_on_behind_text sc_go_on_behind_text (fun vs H Q E h => ?_) (fun cdv A outer s H vs Q E hr h => ?_)
  · obtain ⟨H0, x, b, p, f, F, t, d, bs, rfl, _⟩ := h
    rfl
  · obtain ⟨H0, x, b, p, f, F, t, d, bs, rfl, ⟨c, cs, eb, hs⟩, k1, k2⟩ := h
    refine ⟨_, (pss_cons (ps_set (i := 1) sc_go_on_behind_text.nd rfl (Or.inl rfl) (pe_bm0 PySem.F.plainAttrs_list PySem.F.slot_list_pop PySem.F.type_list_pop mt_pop (pe_fld (pv 0) (by rfl))))
        (pss_cons (ps_set (i := 2) sc_go_on_behind_text.nd rfl (Or.inl rfl) (pe_ix ix_tup (pv 1) pe_int (fun _ _ => rfl)))
        (pss_one (ps_if (pt_cmpR op_eq (pv 2) (pe_gint rfl T.g_OPENING) (nomark _)) (pss_one (ps_expr (pe_meth0 (pv 0) T.c_Reader T.h_read_join G_read_join (hr.mono (by decide)) T.b_read_join .nil passN))) (pss_one (ps_if (pt_cmpR op_in_seq (pv 2) (pe_tup (pa_cons (pe_gint rfl T.g_ALL) (pa_cons (pe_gint rfl T.g_SOME) pa_nil))) (by with_unfolding_all rfl)) (pss_cons (ps_set (i := 3) sc_go_on_behind_text.nd rfl (Or.inl rfl) (pe_bm0 PySem.F.plainAttrs_list PySem.F.slot_list_pop PySem.F.type_list_pop mt_pop (pe_fld (pv 0) (by rfl))))
        (pss_one (ps_expr (pe_bm PySem.F.plainAttrs_list PySem.F.slot_list_append PySem.F.type_list_append mt_append (pe_ix ix_list (pe_fld (pv 0) (by rfl)) (pe_un un_neg pe_int) (fun _ _ => rfl)) (pa_cons (pe_tup (pa_cons (pv 2) (pa_cons (pe_ix ix_tup (pv 1) pe_int (fun _ _ => rfl)) (pa_cons (pv 3) pa_nil)))) pa_nil))))) (pss_cons (ps_if (pt_cmpR op_ne (pv 2) (pe_gint rfl T.g_NOT) (nomark _)) (pss_one (ps_expr (pe_meth (pv 0) T.c_Reader T.h_take_just G_take_just (hr.mono (by decide)) T.b_take_just .nil passN (pa_cons (pe_gint rfl T.g_CLOSING) pa_nil)))) pss_nil)
        (pss_one (ps_expr (pe_bm PySem.F.plainAttrs_list PySem.F.slot_list_append PySem.F.type_list_append mt_append (pe_ix ix_list (pe_fld (pv 0) (by rfl)) (pe_un un_neg pe_int) (fun _ _ => rfl)) (pa_cons (pe_tup (pa_cons (pv 2) pa_nil)) pa_nil))))))))))), ?_⟩
    show (t_go_on_behind_text_9 K a E 0 : TS) _ _ _
    have bd0 := hs.bound
    have hbl := hs.bl
    rw [List.map_cons, List.sum_cons, List.length_cons] at bd0
    obtain ⟨ps0, q0⟩ := hs.q
    obtain ⟨ps, tp, hw, htp, hok, h1, htp1⟩ := hs.unwait
    first | refine fldV rfl q0.at_ T.c_Reader T.a_Reader_waiting rfl ⟨.inl ⟨rfl, _, SqL.of hw⟩, popL hw (map_last _ _ _) ?_⟩ | refine ⟨_, rfl, x.r, _, x.dx, _, _, rfl, q0.at_, T.c_Reader, T.a_Reader_waiting, rfl, .inl ⟨rfl, _, SqL.of hw⟩, x.w, _, _, rfl, rfl, hw, map_last _ _ _, ?_⟩
    rw [map_drop]
    generalize upd H x.w (.lst (ps.map V.ref)) = H1 at h1 htp1
    obtain ⟨ps1, q1⟩ := h1.q
    first | refine ⟨_, rfl, ixT (SqT.of htp1) rfl ?_⟩ | refine ⟨_, rfl, tp, _, _, _, rfl, rfl, SqT.of htp1, rfl, ?_⟩
    cases f with
    | op =>
      first | refine ⟨_, rfl, rfl, tk (ifEqT rfl ?_)⟩ | refine ⟨_, rfl, rfl, _, rfl, ifEqT rfl ?_⟩
      have efr : frT (.op :: F) t = frT F t := by
        funext u
        unfold frT
        rw [bnd_op]
        rfl
      rw [efr] at h1
      first | refine methV rfl q1.at_ rfl ⟨H0, x, b, p, F, t, d, bs, rfl, ⟨c, cs, eb, h1⟩, ?_, k2⟩ | refine ⟨_, rfl, x.r, x.dx, _, rfl, q1.at_, rfl, H0, x, b, p, F, t, d, bs, rfl, ⟨c, cs, eb, h1⟩, ?_, k2⟩
      intro p' F' t' d' bs' H' hA hf hm
      exact k1 p' F' t' d' bs' H' hA hf (by (first | lia | omega))
    | nt =>
      first | refine ⟨_, rfl, rfl, tk (ifEqF (by decide) ?_)⟩ | refine ⟨_, rfl, rfl, _, rfl, ifEqF (by decide) ?_⟩
      first | refine ⟨_, rfl, by show 2 ≤ sizeLine; decide, fun tq htq => inS (SqT.of upd_same) rfl rfl (tk (ifBF rfl ?_))⟩ | refine ⟨_, rfl, by show 2 ≤ sizeLine; decide, fun tq htq => ⟨tq, _, rfl, .inr (SqT.of upd_same), rfl, rfl, _, rfl, ifBF rfl ?_⟩⟩
      have sT : Same H1 (upd H1 tq (.tup [.int 65, .int 69])) := same_new htq
      have q2 := q1.same sT
      have h2 := h1.keepRF q2 (Same.rf sT x) h1.bound
      generalize upd H1 tq (.tup [.int 65, .int 69]) = H2 at q2 h2
      first | refine ⟨_, rfl, rfl, tk (ifNeF rfl ?_)⟩ | refine ⟨_, rfl, rfl, _, rfl, ifNeF rfl ?_⟩
      obtain ⟨xs, hd5, hc5⟩ : ∃ xs, H2 d = some (.lst xs) ∧ CodeAt H2 (Dm x (d :: bs)) xs (c ++ code t) := by
        cases h2.bod with
        | cons r t => exact r
      have ln := hc5.length
      first | refine fldV rfl q2.at_ T.c_Reader T.a_Reader_bodies rfl ⟨_, rfl, ixL (SqL.of h2.hB) atI_last ⟨.inl ⟨rfl, _, SqL.of hd5⟩, ?_⟩⟩ | refine ⟨_, rfl, x.r, _, x.dx, _, _, rfl, q2.at_, T.c_Reader, T.a_Reader_bodies, rfl, _, rfl, x.B, _, _, _, rfl, rfl, SqL.of h2.hB, atI_last, .inl ⟨rfl, _, SqL.of hd5⟩, ?_⟩
      refine ⟨_, rfl, by show 1 ≤ sizeLine; decide, fun pt hpt => ?_⟩
      have nP := h2.there hpt
      have sP : Same H2 (upd H2 pt (.tup [.int (fmP .nt).1])) := same_new hpt
      have hP : (upd H2 pt (.tup [.int (fmP .nt).1])) pt = some (.tup [.int 33]) := upd_same
      have qP := q2.same sP
      have SP := h2.keepRF qP (Same.rf sP x) h2.bound
      have hdP := sP _ _ hd5
      generalize upd H2 pt (.tup [.int (fmP .nt).1]) = HZ at hP qP SP hdP
      first | refine apd hdP (line_big (by (first | lia | omega))) ?_ | refine ⟨d, xs, _, rfl, rfl, hdP, line_big (by (first | lia | omega)), ?_⟩
      have r5 := SP.push hdP (st := [.nt]) (.nt hP nP .nil) (by rw [List.map_cons, List.sum_cons, List.length_append]; show _ + 1 + _ + _ + _ ≤ _; (first | lia | omega))
      refine k1 p F (.not t) d bs _ ⟨c, cs, eb, ?_⟩ rfl (by (first | lia | omega))
      rw [List.append_assoc] at r5
      exact r5
    | jn o s' =>
      have ho : isJ o := hok
      have o1 : o ≠ 40 ∧ o ≠ 65 ∧ o ≠ 69 ∧ o ≠ 33 := by unfold isJ at ho; (first | lia | omega)
      first | refine ⟨_, rfl, rfl, tk (ifEqF (by show ¬ ((o : Nat) : Int) = 40; (first | lia | omega)) ?_)⟩ | refine ⟨_, rfl, rfl, _, rfl, ifEqF (by show ¬ ((o : Nat) : Int) = 40; (first | lia | omega)) ?_⟩
      have in0 : inV (.int (o : Nat)) [.int 65, .int 69] = false := by rcases ho with rfl | rfl | rfl <;> rfl
      first | refine ⟨_, rfl, by show 2 ≤ sizeLine; decide, fun tq htq => inS (SqT.of upd_same) rfl rfl (tk (ifBF in0 ?_))⟩ | refine ⟨_, rfl, by show 2 ≤ sizeLine; decide, fun tq htq => ⟨tq, _, rfl, .inr (SqT.of upd_same), rfl, rfl, _, rfl, ifBF in0 ?_⟩⟩
      have sT : Same H1 (upd H1 tq (.tup [.int 65, .int 69])) := same_new htq
      have q2 := q1.same sT
      have h2 := h1.keepRF q2 (Same.rf sT x) h1.bound
      generalize upd H1 tq (.tup [.int 65, .int 69]) = H2 at q2 h2
      first | refine ⟨_, rfl, rfl, tk (ifNeT (by show ¬ ((o : Nat) : Int) = 33; (first | lia | omega)) ?_)⟩ | refine ⟨_, rfl, rfl, _, rfl, ifNeT (by show ¬ ((o : Nat) : Int) = 33; (first | lia | omega)) ?_⟩
      have tle : ∀ q, (b.drop (q + 1)).length ≤ (b.drop q).length := fun q => by rw [List.length_drop, List.length_drop]; (first | lia | omega)
      first | refine methV rfl q2.at_ rfl ⟨x, b, p, 41, rfl, q2.rp, ?_, ?_⟩ | refine ⟨_, rfl, x.r, x.dx, _, rfl, q2.at_, rfl, x, b, p, 41, rfl, q2.rp, ?_, ?_⟩
      rotate_left
      · intro no
        refine AllE.mv (k2 ?_) q2 _
        simp only [fin]
      intro r er
      have e1 := drop1 er
      have tp1 := tle p
      have q3 := q2.mv (p + 1)
      have s3 : SameRF x H2 (x.mv a.C_Reader H2 (p + 1)) := SameRF.mv (SameRF.refl x H2) _ _
      generalize x.mv a.C_Reader H2 (p + 1) = H3 at q3 s3
      have h3 := h2.keepRF q3 s3 (by rw [List.map_cons, List.sum_cons]; (first | lia | omega))
      obtain ⟨xs, hd5, hc5⟩ : ∃ xs, H3 d = some (.lst xs) ∧ CodeAt H3 (Dm x (d :: bs)) xs (c ++ code t) := by
        cases h3.bod with
        | cons r t => exact r
      have ln := hc5.length
      first | refine fldV rfl q3.at_ T.c_Reader T.a_Reader_bodies rfl ⟨_, rfl, ixL (SqL.of h3.hB) atI_last ⟨.inl ⟨rfl, _, SqL.of hd5⟩, ?_⟩⟩ | refine ⟨_, rfl, x.r, _, x.dx, _, _, rfl, q3.at_, T.c_Reader, T.a_Reader_bodies, rfl, _, rfl, x.B, _, _, _, rfl, rfl, SqL.of h3.hB, atI_last, .inl ⟨rfl, _, SqL.of hd5⟩, ?_⟩
      refine ⟨_, rfl, by show 1 ≤ sizeLine; decide, fun pt hpt => ?_⟩
      have nP := h3.there hpt
      have sP : Same H3 (upd H3 pt (.tup [.int (fmP (.jn o s')).1])) := same_new hpt
      have hP : (upd H3 pt (.tup [.int (fmP (.jn o s')).1])) pt = some (.tup [.int (o : Nat)]) := upd_same
      have qP := q3.same sP
      have SP := h3.keepRF qP (Same.rf sP x) h3.bound
      have hdP := sP _ _ hd5
      generalize upd H3 pt (.tup [.int (fmP (.jn o s')).1]) = HZ at hP qP SP hdP
      first | refine apd hdP (line_big (by (first | lia | omega))) ?_ | refine ⟨d, xs, _, rfl, rfl, hdP, line_big (by (first | lia | omega)), ?_⟩
      have r5 := SP.push hdP (st := [.jn o]) (.jn (.inl ho) hP nP .nil) (by rw [List.map_cons, List.sum_cons, List.length_append]; show _ + 1 + _ + _ + _ ≤ _; (first | lia | omega))
      obtain ⟨c1, cs1, eb1⟩ := bods_ne F
      simp only [bods, eb1] at eb
      cases eb
      have efr : frT (.jn o s' :: F) t = frT F (mkJ o s' t) := by
        funext u
        exact frT_jn F o s' t u
      rw [efr, List.append_assoc, List.append_assoc, ← code_mkJ s' t ho] at r5
      refine k1 (p + 1) F (mkJ o s' t) d bs _ ⟨c1, _, eb1, r5⟩ ?_ (by (first | lia | omega))
      rw [er, e1]
      rfl
    | bd qq u =>
      have hqq : qq = 65 ∨ qq = 69 := hok
      first | refine ⟨_, rfl, rfl, tk (ifEqF (by show ¬ ((qq : Nat) : Int) = 40; (first | lia | omega)) ?_)⟩ | refine ⟨_, rfl, rfl, _, rfl, ifEqF (by show ¬ ((qq : Nat) : Int) = 40; (first | lia | omega)) ?_⟩
      have in1 : inV (.int (qq : Nat)) [.int 65, .int 69] = true := by rcases hqq with rfl | rfl <;> rfl
      first | refine ⟨_, rfl, by show 2 ≤ sizeLine; decide, fun tq htq => inS (SqT.of upd_same) rfl rfl (tk (ifB in1 ?_))⟩ | refine ⟨_, rfl, by show 2 ≤ sizeLine; decide, fun tq htq => ⟨tq, _, rfl, .inr (SqT.of upd_same), rfl, rfl, _, rfl, ifB in1 ?_⟩⟩
      have sT : Same H1 (upd H1 tq (.tup [.int 65, .int 69])) := same_new htq
      have q2 := q1.same sT
      have h2 := h1.keepRF q2 (Same.rf sT x) h1.bound
      have htp2 := sT _ _ htp1
      generalize upd H1 tq (.tup [.int 65, .int 69]) = H2 at q2 h2 htp2
      obtain ⟨c1, cs1, eb1⟩ := bods_ne F
      simp only [bods, eb1] at eb
      cases eb
      obtain ⟨d1, bs1, rfl⟩ : ∃ d1 bs1, bs = d1 :: bs1 := by
        have := h2.bod
        cases this with
        | cons r t =>
          cases t with
          | cons r' t' => exact ⟨_, _, rfl⟩
      have eB : ((d :: d1 :: bs1).reverse.map V.ref)[((d :: d1 :: bs1).reverse.map V.ref).length - 1]? = some (.ref d) := by simp
      have dB : ((d :: d1 :: bs1).reverse.map V.ref).dropLast = (d1 :: bs1).reverse.map V.ref := by simp
      first | refine fldV rfl q2.at_ T.c_Reader T.a_Reader_bodies rfl ⟨.inl ⟨rfl, _, SqL.of h2.hB⟩, popL h2.hB eB ?_⟩ | refine ⟨_, rfl, x.r, _, x.dx, _, _, rfl, q2.at_, T.c_Reader, T.a_Reader_bodies, rfl, .inl ⟨rfl, _, SqL.of h2.hB⟩, x.B, _, _, rfl, rfl, h2.hB, eB, ?_⟩
      rw [dB]
      obtain ⟨h3, nD, ys, hy3, hc3⟩ := h2.close (by simp)
      have htp3 : (upd H2 x.B (.lst ((d1 :: bs1).reverse.map V.ref))) tp = some (.tup [.int ((qq : Nat) : Int), .int ((u : Nat) : Int)]) := by
        rw [upd_ne (ne_of htp2 h2.hB (by intro z; cases z))]
        exact htp2
      generalize upd H2 x.B (.lst ((d1 :: bs1).reverse.map V.ref)) = H3 at h3 hy3 hc3 htp3
      obtain ⟨ps3, q3⟩ := h3.q
      obtain ⟨xs, hd5, hc5⟩ : ∃ xs, H3 d1 = some (.lst xs) ∧ CodeAt H3 (Dm x (d1 :: bs1)) xs c1 := by
        cases h3.bod with
        | cons r t => exact r
      have ln := hc5.length
      rw [List.map_cons, List.sum_cons] at bd0
      first | refine fldV rfl q3.at_ T.c_Reader T.a_Reader_bodies rfl ⟨_, rfl, ixL (SqL.of h3.hB) atI_last ⟨.inl ⟨rfl, _, SqL.of hd5⟩, ?_⟩⟩ | refine ⟨_, rfl, x.r, _, x.dx, _, _, rfl, q3.at_, T.c_Reader, T.a_Reader_bodies, rfl, _, rfl, x.B, _, _, _, rfl, rfl, SqL.of h3.hB, atI_last, .inl ⟨rfl, _, SqL.of hd5⟩, ?_⟩
      first | refine ⟨_, rfl, _, rfl, ixT (SqT.of htp3) rfl ⟨_, rfl, by show 3 ≤ sizeLine; decide, fun pt hpt => ?_⟩⟩ | refine ⟨_, rfl, _, rfl, tp, _, _, _, rfl, rfl, SqT.of htp3, rfl, _, rfl, by show 3 ≤ sizeLine; decide, fun pt hpt => ?_⟩
      have nP := h3.there hpt
      have sP : Same H3 (upd H3 pt (.tup [.int (fmP (.bd qq u)).1, .int ((u : Nat) : Int), .ref d])) := same_new hpt
      have hP : (upd H3 pt (.tup [.int (fmP (.bd qq u)).1, .int ((u : Nat) : Int), .ref d])) pt = some (.tup [.int ((qq : Nat) : Int), .int ((u : Nat) : Int), .ref d]) := upd_same
      have qP := q3.same sP
      have SP := h3.keepRF qP (Same.rf sP x) h3.bound
      have hdP := sP _ _ hd5
      have hyP := sP _ _ hy3
      have hcP : CodeAt (upd H3 pt (.tup [.int (fmP (.bd qq u)).1, .int ((u : Nat) : Int), .ref d])) (Dm x (d1 :: bs1)) ys (code t) := hc3.mono (fun b' o' e' _ => sP b' o' e') fun _ _ _ n => n
      generalize upd H3 pt (.tup [.int (fmP (.bd qq u)).1, .int ((u : Nat) : Int), .ref d]) = HZ at hP qP SP hdP hyP hcP
      first | refine apd hdP (line_big (by (first | lia | omega))) ?_ | refine ⟨d1, xs, _, rfl, rfl, hdP, line_big (by (first | lia | omega)), ?_⟩
      have r5 := SP.push hdP (st := [.bd qq u (.of t)]) (.bd hqq hP hyP nP nD hcP .nil) (by rw [List.map_cons, List.sum_cons, List.length_append]; show _ + 1 + _ + _ + _ ≤ _; (first | lia | omega))
      have efr : frT (.bd qq u :: F) t = frT F (mkB qq u t) := by
        funext k
        exact frT_bd F qq u t k
      rw [efr, ← code_mkB u t hqq] at r5
      exact k1 p F (mkB qq u t) d1 bs1 _ ⟨c1, cs1, eb1, r5⟩ rfl (by (first | lia | omega))
def sp_read_whole (K : PySem.W.Frag) (C : Addr) : Sp := fun vs H Q E => ∃ (H0 : Hp) (x : RA) (b : List Nat) (bs : List Addr), vs = [.ref x.r] ∧ RSB K C H0 H x b 0 [] bs ∧
  (∀ p' t d bs' H', RSA K C H0 H' x b p' [] t d bs' → Sy15.read b = some t → Q .non H') ∧ (Sy15.read b = none → AllE C H0 x E)
@[reducible] def t_read_whole_0 (K : PySem.W.Frag) (a : Adr) (E : XK) (d : Nat) : TS := (fun _ _ H => E (.ref a.C_NoText) none H)
@[reducible] def t_read_whole_1 (K : PySem.W.Frag) (a : Adr) (E : XK) (d : Nat) : TS := (tIfS (tTest (tOp (rI0 fun i j => .bl (decide (i < j))) (tFld K (tVar 0) "place") (tCB (rLen K) (tCons (tFld K (tVar 0) "text") tNil)))) (t_read_whole_0 K a E d) tNext)
@[reducible] def t_read_whole_2 (K : PySem.W.Frag) (a : Adr) (E : XK) (d : Nat) : TS := (tDrop (tMeth a.C_Reader "go_on_behind_text" (sp_go_on K a.C_Reader) [] E (tVar 0) tNil))
@[reducible] def t_read_whole_3 (K : PySem.W.Frag) (a : Adr) (E : XK) (d : Nat) : TS := tSeq (tWhile (tTest (tOp (rI0 fun i j => .bl (decide (j < i))) (tCB (rLen K) (tCons (tFld K (tVar 0) "waiting") tNil)) (tC (.int 0)))) (t_read_whole_2 K a E d)) (t_read_whole_1 K a E d)
@[reducible] def t_read_whole_4 (K : PySem.W.Frag) (a : Adr) (E : XK) (d : Nat) : TS := tSeq (tDrop (tMeth a.C_Reader "read_to_claim" (sp_read_to_claim K a.C_Reader) [] E (tVar 0) tNil)) (t_read_whole_3 K a E d)
@[reducible] def t_read_whole_5 (K : PySem.W.Frag) (a : Adr) (E : XK) (d : Nat) : TS := (fun _ _ H => E (.ref a.C_NoText) none H)
@[reducible] def t_read_whole_6 (K : PySem.W.Frag) (a : Adr) (E : XK) (d : Nat) : TS := tSeq (tIfS (tOr (tTest (tOp (rI0 fun i j => .bl (decide (j < i))) (tOp (rI0 fun i j => .int (i + j)) (tBM K "list" (rCntI K) (tFld K (tVar 0) "text") (tCons (tC (.int (65))) tNil)) (tBM K "list" (rCntI K) (tFld K (tVar 0) "text") (tCons (tC (.int (69))) tNil))) (tC (.int (3))))) (tTest (tOp (rI0 fun i j => .bl (decide (j < i))) (tBM K "list" (rCntI K) (tFld K (tVar 0) "text") (tCons (tC (.int (91))) tNil)) (tC (.int (8)))))) (t_read_whole_5 K a E d) tNext) (t_read_whole_4 K a E d)
theorem ok_read_whole (T : Txt K mg a) : FnOk P w K mg base (CXN P w a.C_NoText) 11 a.f_read_whole a.d_read_whole ["self"] (sp_read_whole K a.C_Reader) := by
  have G_read_to_claim : FnOk P w K mg base (CXN P w a.C_NoText) 8 a.f_read_to_claim a.d_read_to_claim ["self"] (sp_read_to_claim K a.C_Reader) := ok_read_to_claim T
  have G_go_on_behind_text : FnOk P w K mg base (CXN P w a.C_NoText) 10 a.f_go_on_behind_text a.d_go_on_behind_text ["self"] (sp_go_on K a.C_Reader) := ok_go_on_behind_text T
  refine Fun.okN T.f_read_whole sc_read_whole (fun vs H Q E h => ?_) (fun cdv A outer s H vs Q E hr h => ?_)
  · obtain ⟨H0, x, b, bs, rfl, _⟩ := h
    rfl
  · obtain ⟨H0, x, b, bs, rfl, hs, k1, k2⟩ := h
    refine ⟨_, (pss_cons (ps_if (PW.pt (pw_or (pt_cmpR op_gt (pe_op op_add (pe_bm PySem.F.plainAttrs_list PySem.F.slot_list_count PySem.F.type_list_count mt_countI (pe_fld (pv 0) (by rfl)) (pa_cons (pe_gint rfl T.g_ALL) pa_nil)) (pe_bm PySem.F.plainAttrs_list PySem.F.slot_list_count PySem.F.type_list_count mt_countI (pe_fld (pv 0) (by rfl)) (pa_cons (pe_gint rfl T.g_SOME) pa_nil))) (pe_gint rfl T.g_MOST_BINDERS) (nomark _)) (pw_or1 (pt_cmpR op_gt (pe_bm PySem.F.plainAttrs_list PySem.F.slot_list_count PySem.F.type_list_count mt_countI (pe_fld (pv 0) (by rfl)) (pa_cons (pe_gint rfl T.g_CLAIM_START) pa_nil)) (pe_gint rfl T.g_MOST_CLAIMS) (nomark _))))) (pss_one (ps_raiseN T.exc rfl T.m_NoText)) pss_nil)
        (pss_cons (ps_expr (pe_meth0 (pv 0) T.c_Reader T.h_read_to_claim G_read_to_claim (hr.mono (by decide)) T.b_read_to_claim .nil passN))
        (pss_cons (ps_while PassesOwn.leaving (pt_cmpR op_gt (pe_callB call_len_seq rfl T.n_len PySem.boot_len (pa_cons (pe_fld (pv 0) (by rfl)) pa_nil)) pe_int (nomark _)) (pss_one (ps_expr (pe_meth0 (pv 0) T.c_Reader T.h_go_on_behind_text G_go_on_behind_text (hr.mono (by decide)) T.b_go_on_behind_text .nil passN))))
        (pss_one (ps_if (pt_cmpR op_lt (pe_fld (pv 0) (by rfl)) (pe_callB call_len_seq rfl T.n_len PySem.boot_len (pa_cons (pe_fld (pv 0) (by rfl)) pa_nil)) (nomark _)) (pss_one (ps_raiseN T.exc rfl T.m_NoText)) pss_nil))))), ?_⟩
    show (t_read_whole_6 K a E 0 : TS) _ _ _
    obtain ⟨ps, hq⟩ := hs.q
    have ht : SqL K H x.tx (bl b) := hq.rp.tx
    have ht' : SqL K H x.tx ((b.map fun n : Nat => (n : Int)).map V.int) := by rw [← bl_ints]; exact ht
    first | refine fldV rfl hq.at_ T.c_Reader T.a_Reader_text rfl ⟨.inl ⟨rfl, _, ht⟩, x.tx, _, 65, rfl, rfl, ht', ?_⟩ | refine ⟨_, rfl, x.r, _, x.dx, _, _, rfl, hq.at_, T.c_Reader, T.a_Reader_text, rfl, .inl ⟨rfl, _, ht⟩, x.tx, _, 65, rfl, rfl, ht', ?_⟩
    first | refine fldV rfl hq.at_ T.c_Reader T.a_Reader_text rfl ⟨.inl ⟨rfl, _, ht⟩, x.tx, _, 69, rfl, rfl, ht', i2 (i2 ⟨_, rfl, ?_⟩)⟩ | refine ⟨_, rfl, x.r, _, x.dx, _, _, rfl, hq.at_, T.c_Reader, T.a_Reader_text, rfl, .inl ⟨rfl, _, ht⟩, x.tx, _, 69, rfl, rfl, ht', _, _, rfl, rfl, _, _, rfl, rfl, _, rfl, ?_⟩
    have c1 := cnt b 65
    have c2 := cnt b 69
    have c3 := cnt b 91
    have c12 := cnt2 b
    have hg := read_goal b
    have eq1 : (List.countP (fun i => decide (i = (65 : Int))) (b.map fun n : Nat => (n : Int))) = (b.filter fun c => c == 65).length := c1
    have eq2 : (List.countP (fun i => decide (i = (69 : Int))) (b.map fun n : Nat => (n : Int))) = (b.filter fun c => c == 69).length := c2
    have eq3 : (List.countP (fun i => decide (i = (91 : Int))) (b.map fun n : Nat => (n : Int))) = (b.filter fun c => c == 91).length := c3
    rw [eq1, eq2]
    by_cases g1 : (3 : Int) < ((b.filter fun c => c == 65).length : Nat) + ((b.filter fun c => c == 69).length : Nat)
    · refine ifT g1 ?_
      refine AllE.at_ (k2 ?_) hq
      rw [hg, if_pos (by left; (first | lia | omega))]
    refine ifF g1 ?_
    first | refine fldV rfl hq.at_ T.c_Reader T.a_Reader_text rfl ⟨.inl ⟨rfl, _, ht⟩, x.tx, _, 91, rfl, rfl, ht', i2 ⟨_, rfl, ?_⟩⟩ | refine ⟨_, rfl, x.r, _, x.dx, _, _, rfl, hq.at_, T.c_Reader, T.a_Reader_text, rfl, .inl ⟨rfl, _, ht⟩, x.tx, _, 91, rfl, rfl, ht', _, _, rfl, rfl, _, rfl, ?_⟩
    rw [eq3]
    by_cases g2 : (8 : Int) < ((b.filter fun c => c == 91).length : Nat)
    · refine ifT g2 ?_
      refine AllE.at_ (k2 ?_) hq
      rw [hg, if_pos (by right; (first | lia | omega))]
    refine ifF g2 ?_
    rw [if_neg (by (first | lia | omega))] at hg
    have k1 := fun p' t d bs' H' h1 h2 => k1 p' t d bs' H' h1 (hg.trans h2)
    have k2 := fun h => k2 (hg.trans h)
    clear g1 g2 eq1 eq2 eq3 c1 c2 c3 c12 ht'
    first | refine methV rfl hq.at_ rfl ⟨H0, x, b, 0, [], bs, rfl, hs, ?_, ?_⟩ | refine ⟨_, rfl, x.r, x.dx, _, rfl, hq.at_, rfl, H0, x, b, 0, [], bs, rfl, hs, ?_, ?_⟩
    · intro p1 F1 t1 d1 bs1 H1 hA hf hm
      rw [List.drop_zero] at hf
      refine ⟨fun c σ H' => σ = [some (.ref x.r)] ∧ ∃ p' F' t d bs', RSA K a.C_Reader H0 H' x b p' F' t d bs' ∧ fin F' t (b.drop p') = goal [] b ∧ (b.drop p').length + F'.length = c, ⟨_, rfl, p1, F1, t1, d1, bs1, hA, hf, rfl⟩, ?_⟩
      rintro c σ H' ⟨rfl, p', F', t, d, bs', hA', hf', rfl⟩
      obtain ⟨c0, cs0, eb, h2⟩ := hA'
      obtain ⟨ps2, q2⟩ := h2.q
      have wl := h2.wlen q2
      first | refine fldV rfl q2.at_ T.c_Reader T.a_Reader_waiting rfl ⟨x.w, _, rfl, .inl (SqL.of q2.hw), ?_⟩ | refine ⟨_, rfl, x.r, _, x.dx, _, _, rfl, q2.at_, T.c_Reader, T.a_Reader_waiting, rfl, x.w, _, rfl, .inl (SqL.of q2.hw), ?_⟩
      rw [List.length_map, wl]
      first | refine i2 ⟨_, rfl, ?_⟩ | refine ⟨_, _, rfl, rfl, _, rfl, ?_⟩
      cases F' with
      | nil =>
        refine ifF (by decide) ?_
        first | refine fldV rfl q2.at_ T.c_Reader T.a_Reader_place rfl (fldV rfl q2.at_ T.c_Reader T.a_Reader_text rfl ⟨x.tx, _, rfl, .inl q2.rp.tx, i2 ⟨_, rfl, ?_⟩⟩) | refine ⟨_, rfl, x.r, _, x.dx, _, _, rfl, q2.at_, T.c_Reader, T.a_Reader_place, rfl, _, rfl, x.r, _, x.dx, _, _, rfl, q2.at_, T.c_Reader, T.a_Reader_text, rfl, x.tx, _, rfl, .inl q2.rp.tx, _, _, rfl, rfl, _, rfl, ?_⟩
        rw [bl_len]
        by_cases hp : p' < b.length
        · refine ifT (by (first | lia | omega)) ?_
          refine AllE.at_ (k2 ?_) q2
          rw [← hf']
          show (if b.drop p' = [] then some t else none) = none
          rw [if_neg]
          intro z
          have := congrArg List.length z
          rw [List.length_drop, List.length_nil] at this
          (first | lia | omega)
        · refine ifF (by (first | lia | omega)) ?_
          refine k1 p' t d bs' H' ⟨c0, cs0, eb, h2⟩ ?_
          rw [← hf']
          show (if b.drop p' = [] then some t else none) = some t
          rw [if_pos (List.drop_eq_nil_of_le (by (first | lia | omega)))]
      | cons f F' =>
        refine ifT (by show (0 : Int) < ((F'.length + 1 : Nat) : Int); (first | lia | omega)) ?_
        refine ⟨_, fun σ' H' q => q, ?_⟩
        first | refine methV rfl q2.at_ rfl ⟨H0, x, b, p', f, F', t, d, bs', rfl, ⟨c0, cs0, eb, h2⟩, ?_, ?_⟩ | refine ⟨_, rfl, x.r, x.dx, _, rfl, q2.at_, rfl, H0, x, b, p', f, F', t, d, bs', rfl, ⟨c0, cs0, eb, h2⟩, ?_, ?_⟩
        · intro p3 F3 t3 d3 bs3 H3 hA3 hf3 hm3
          exact ⟨_, hm3, rfl, p3, F3, t3, d3, bs3, hA3, hf3.trans hf', rfl⟩
        · intro no
          rw [no] at hf'
          exact k2 hf'.symm
    · intro no
      rw [List.drop_zero] at no
      exact k2 no
end
end WS
end
section
set_option Elab.async false
set_option linter.all false
set_option maxRecDepth 100000
set_option maxHeartbeats 1000000
namespace WS
open PySem PySem.Spec PyProof.Rows L2
open Sy15 (T Val put)
theorem stepI {H2 : Hp} {r C dx f : Addr} {fs : List (Str × V)} (h : H2 r = some (.ins C dx fs)) (hf : H2 f = none) (l : List V) (fs' : List (Str × V)) :
    (upd (upd H2 f (.lst l)) r (.ins C dx fs')) r = some (.ins C dx fs') ∧ (upd (upd H2 f (.lst l)) r (.ins C dx fs')) f = some (.lst l) ∧ (∀ c o, H2 c = some o → c ≠ r → (upd (upd H2 f (.lst l)) r (.ins C dx fs')) c = some o) ∧
      (∀ c, (upd (upd H2 f (.lst l)) r (.ins C dx fs')) c = none → H2 c = none ∧ c ≠ f) := by
  have fr : f ≠ r := Ne.symm (ne_of_none h hf)
  refine ⟨upd_same, by rw [upd_ne fr, upd_same], fun c o e n => by rw [upd_ne n, upd_ne (ne_of_none e hf)]; exact e, fun c e => ?_⟩
  have cr : c ≠ r := fun z => by rw [z, upd_same] at e; cases e
  rw [upd_ne cr] at e
  have cf : c ≠ f := fun z => by rw [z, upd_same] at e; cases e
  rw [upd_ne cf] at e
  exact ⟨e, cf⟩
section
variable {P : Program} {w : World} {K : PySem.W.Frag} {mg : Str → Option Value} {base : Heap} {a : Adr}
def sp_Reader_init (C : Addr) : Sp := fun vs H Q _ => ∃ (r dx tx : Addr), vs = [.ref r, .ref tx] ∧ H r = some (.ins C dx []) ∧
  (∀ (x : RA) H', x.r = r → x.dx = dx → x.tx = tx → H' r = some (.ins C dx (x.fs 0)) → H' x.f = some (.lst (fl fun _ => false)) → H' x.w = some (.lst []) → H' x.s0 = some (.lst []) → H' x.B = some (.lst [.ref x.s0]) →
    H x.f = none → H x.w = none → H x.s0 = none → H x.B = none → (x.f :: x.w :: x.B :: [x.s0]).Nodup → (∀ c o, H c = some o → c ≠ r → H' c = some o) → Q .non H')
@[reducible] def t_Reader_init_0 (K : PySem.W.Frag) (a : Adr) (E : XK) (d : Nat) : TS := (sFld K (tVar 0) (tLst (tCons (tFld K (tVar 0) "steps") tNil)) "bodies")
@[reducible] def t_Reader_init_1 (K : PySem.W.Frag) (a : Adr) (E : XK) (d : Nat) : TS := tSeq (sFld K (tVar 0) (tLst tNil) "steps") (t_Reader_init_0 K a E d)
@[reducible] def t_Reader_init_2 (K : PySem.W.Frag) (a : Adr) (E : XK) (d : Nat) : TS := tSeq (sFld K (tVar 0) (tLst tNil) "waiting") (t_Reader_init_1 K a E d)
@[reducible] def t_Reader_init_3 (K : PySem.W.Frag) (a : Adr) (E : XK) (d : Nat) : TS := tSeq (sFld K (tVar 0) (tLst (tCons (tC (.bl false)) (tCons (tC (.bl false)) (tCons (tC (.bl false)) tNil)))) "free") (t_Reader_init_2 K a E d)
@[reducible] def t_Reader_init_4 (K : PySem.W.Frag) (a : Adr) (E : XK) (d : Nat) : TS := tSeq (sFld K (tVar 0) (tC (.int (0))) "refusal") (t_Reader_init_3 K a E d)
@[reducible] def t_Reader_init_5 (K : PySem.W.Frag) (a : Adr) (E : XK) (d : Nat) : TS := tSeq (sFld K (tVar 0) (tC (.int 0)) "place") (t_Reader_init_4 K a E d)
@[reducible] def t_Reader_init_6 (K : PySem.W.Frag) (a : Adr) (E : XK) (d : Nat) : TS := tSeq (sFld K (tVar 0) (tVar 1) "text") (t_Reader_init_5 K a E d)
theorem ok_Reader_init (T : Txt K mg a) : FnOk P w K mg base CX0 1 a.f_Reader_init a.d_Reader_init ["self", "text"] (sp_Reader_init a.C_Reader) := by
  refine T.f_Reader_init.ok sc_Reader_init (fun vs H Q E h => ?_) (fun cdv A outer s H vs Q E hr h => ?_)
  · obtain ⟨r, dx, tx, rfl, _⟩ := h
    rfl
  · obtain ⟨r, dx, tx, rfl, hr', k⟩ := h
    refine ⟨_, (pss_cons (ps_fld (pv 0) (pv 1) rfl)
        (pss_cons (ps_fld (pv 0) pe_int rfl)
        (pss_cons (ps_fld (pv 0) (pe_gint rfl T.g_NO_REFUSAL) rfl)
        (pss_cons (ps_fld (pv 0) (pe_lst (pa_cons pe_bl (pa_cons pe_bl (pa_cons pe_bl pa_nil)))) rfl)
        (pss_cons (ps_fld (pv 0) (pe_lst pa_nil) rfl)
        (pss_cons (ps_fld (pv 0) (pe_lst pa_nil) rfl)
        (pss_one (ps_fld (pv 0) (pe_lst (pa_cons (pe_fld (pv 0) (by rfl)) pa_nil)) rfl)))))))), ?_⟩
    show (t_Reader_init_6 K a E 0 : TS) _ _ _
    refine ⟨_, rfl, _, rfl, r, _, dx, [], rfl, hr', T.c_Reader, T.a_Reader_text, (by show 0 < 1000; decide), ?_⟩
    refine ⟨_, rfl, r, _, dx, _, rfl, upd_same, T.c_Reader, T.a_Reader_place, (by show 1 < 1000; decide), ?_⟩
    rw [upd_upd]
    refine ⟨_, rfl, r, _, dx, _, rfl, upd_same, T.c_Reader, T.a_Reader_refusal, (by show 2 < 1000; decide), ?_⟩
    rw [upd_upd]
    have g2 : (upd H r (HO.ins a.C_Reader dx (putF "refusal" (V.int 0) (putF "place" (V.int 0) (putF "text" (V.ref tx) []))))) r = some (.ins a.C_Reader dx [("text", .ref tx), ("place", .int 0), ("refusal", .int 0)]) := upd_same
    have m2 : ∀ c o, H c = some o → c ≠ r → (upd H r (HO.ins a.C_Reader dx (putF "refusal" (V.int 0) (putF "place" (V.int 0) (putF "text" (V.ref tx) []))))) c = some o := fun c o e n => by rw [upd_ne n]; exact e
    have z2 : ∀ c, (upd H r (HO.ins a.C_Reader dx (putF "refusal" (V.int 0) (putF "place" (V.int 0) (putF "text" (V.ref tx) []))))) c = none → H c = none := fun c e => by
      have cr : c ≠ r := fun z => by rw [z, upd_same] at e; cases e
      rw [upd_ne cr] at e
      exact e
    generalize upd H r (HO.ins a.C_Reader dx (putF "refusal" (V.int 0) (putF "place" (V.int 0) (putF "text" (V.ref tx) [])))) = H2 at g2 m2 z2
    refine ⟨by show 3 ≤ sizeLine; decide, fun f hf => ?_⟩
    obtain ⟨g3, f3, m3, z3⟩ := stepI g2 hf [.bl false, .bl false, .bl false] (putF "free" (.ref f) [("text", .ref tx), ("place", .int 0), ("refusal", .int 0)])
    refine ⟨_, rfl, r, _, dx, _, rfl, by rw [upd_ne (ne_of_none g2 hf)]; exact g2, T.c_Reader, T.a_Reader_free, (by show 3 < 1000; decide), ?_⟩
    generalize upd (upd H2 f (.lst [.bl false, .bl false, .bl false])) r (.ins a.C_Reader dx (putF "free" (.ref f) [("text", .ref tx), ("place", .int 0), ("refusal", .int 0)])) = H3 at g3 f3 m3 z3
    refine ⟨Nat.zero_le _, fun w' hw' => ?_⟩
    obtain ⟨g4, f4, m4, z4⟩ := stepI g3 hw' [] (putF "waiting" (.ref w') (putF "free" (.ref f) [("text", .ref tx), ("place", .int 0), ("refusal", .int 0)]))
    refine ⟨_, rfl, r, _, dx, _, rfl, by rw [upd_ne (ne_of_none g3 hw')]; exact g3, T.c_Reader, T.a_Reader_waiting, (by show 4 < 1000; decide), ?_⟩
    generalize upd (upd H3 w' (.lst [])) r (.ins a.C_Reader dx (putF "waiting" (.ref w') (putF "free" (.ref f) [("text", .ref tx), ("place", .int 0), ("refusal", .int 0)]))) = H4 at g4 f4 m4 z4
    refine ⟨Nat.zero_le _, fun s' hs' => ?_⟩
    obtain ⟨g5, f5, m5, z5⟩ := stepI g4 hs' [] (putF "steps" (.ref s') (putF "waiting" (.ref w') (putF "free" (.ref f) [("text", .ref tx), ("place", .int 0), ("refusal", .int 0)])))
    refine ⟨_, rfl, r, _, dx, _, rfl, by rw [upd_ne (ne_of_none g4 hs')]; exact g4, T.c_Reader, T.a_Reader_steps, (by show 5 < 1000; decide), ?_⟩
    generalize upd (upd H4 s' (.lst [])) r (.ins a.C_Reader dx (putF "steps" (.ref s') (putF "waiting" (.ref w') (putF "free" (.ref f) [("text", .ref tx), ("place", .int 0), ("refusal", .int 0)])))) = H5 at g5 f5 m5 z5
    first | refine fldV rfl g5 T.c_Reader T.a_Reader_steps rfl ⟨by show 1 ≤ sizeLine; decide, fun B hB => ?_⟩ | refine ⟨_, rfl, r, _, dx, _, _, rfl, g5, T.c_Reader, T.a_Reader_steps, rfl, by show 1 ≤ sizeLine; decide, fun B hB => ?_⟩
    obtain ⟨g6, f6, m6, z6⟩ := stepI g5 hB [.ref s'] (putF "bodies" (.ref B) (putF "steps" (.ref s') (putF "waiting" (.ref w') (putF "free" (.ref f) [("text", .ref tx), ("place", .int 0), ("refusal", .int 0)]))))
    refine ⟨_, rfl, r, _, dx, _, rfl, by rw [upd_ne (ne_of_none g5 hB)]; exact g5, T.c_Reader, T.a_Reader_bodies, (by show 6 < 1000; decide), ?_⟩
    have nr : ∀ {c : Addr}, H2 c = none → c ≠ r := fun e => Ne.symm (ne_of_none g2 e)
    have w2 := z3 _ hw'
    have s3 := z4 _ hs'
    have s2 := z3 _ s3.1
    have b4 := z5 _ hB
    have b3 := z4 _ b4.1
    have b2 := z3 _ b3.1
    refine k ⟨r, dx, tx, f, w', s', B⟩ _ rfl rfl rfl g6 ?_ ?_ ?_ f6 (z2 _ hf) (z2 _ w2.1) (z2 _ s2.1) (z2 _ b2.1) ?_ ?_
    · exact m6 _ _ (m5 _ _ (m4 _ _ f3 (nr hf)) (nr hf)) (nr hf)
    · exact m6 _ _ (m5 _ _ f4 (nr w2.1)) (nr w2.1)
    · exact m6 _ _ f5 (nr s2.1)
    · simp only [List.nodup_cons, List.mem_cons, List.not_mem_nil, or_false, not_or, not_false_iff, List.nodup_nil, and_true]
      exact ⟨⟨Ne.symm w2.2, Ne.symm b2.2, Ne.symm s2.2⟩, ⟨Ne.symm b3.2, Ne.symm s3.2⟩, b4.2⟩
    · intro c o e n
      exact m6 _ _ (m5 _ _ (m4 _ _ (m3 _ _ (m2 _ _ e n) n) n) n) n
def Refu (C : Addr) (H : Hp) (r : Addr) (n : Int) : Prop := ∃ dx fs, H r = some (.ins C dx fs) ∧ fs.lookup ("refusal" : Str) = some (V.int n)
def sp_read_text (K : PySem.W.Frag) (C : Addr) : Sp := fun vs H Q _ => ∃ (tx : Addr) (b : List Nat), vs = [.ref tx] ∧ SqL K H tx (bl b) ∧
  (64 < b.length → ∀ r H', Same H H' → Refu C H' r (-2) → Q (.ref r) H') ∧ (b.length ≤ 64 → Sy15.read b = none → ∀ r H', Same H H' → Refu C H' r (-1) → Q (.ref r) H') ∧
  (b.length ≤ 64 → ∀ (t : T) (x : RA) (p : Nat) (xs : List V) H', Sy15.read b = some t → Same H H' → H' x.r = some (.ins C x.dx (x.fs p)) → H' x.f = some (.lst (fl fun u => t.free u)) → H' x.s0 = some (.lst xs) → CodeAt H' D0 xs (code t) → xs.length ≤ 64 → Q (.ref x.r) H')
@[reducible] def t_read_text_0 (K : PySem.W.Frag) (a : Adr) (E : XK) (d : Nat) : TS := (sFld K (tVar 1) (tC (.int (-1))) "refusal")
@[reducible] def t_read_text_1 (K : PySem.W.Frag) (a : Adr) (E : XK) (d : Nat) : TS := tSeq (tTryM a.C_Reader "read_whole" (sp_read_whole K a.C_Reader) (tVar 1) (t_read_text_0 K a E d)) (tRet (tVar 1))
@[reducible] def t_read_text_2 (K : PySem.W.Frag) (a : Adr) (E : XK) (d : Nat) : TS := tSeq (sFld K (tVar 1) (tC (.int (-2))) "refusal") (tRet (tVar 1))
@[reducible] def t_read_text_3 (K : PySem.W.Frag) (a : Adr) (E : XK) (d : Nat) : TS := tSeq (tIfS (tTest (tOp (rI0 fun i j => .bl (decide (j < i))) (tCB (rLen K) (tCons (tVar 0) tNil)) (tC (.int (64))))) (t_read_text_2 K a E d) tNext) (t_read_text_1 K a E d)
@[reducible] def t_read_text_4 (K : PySem.W.Frag) (a : Adr) (E : XK) (d : Nat) : TS := tSeq (tAsg (tMake a.C_Reader (sp_Reader_init a.C_Reader) [] E0 (tCons (tVar 0) tNil)) (gName 1)) (t_read_text_3 K a E d)
theorem ok_read_text (T : Txt K mg a) : FnOk P w K mg base CX0 12 a.f_read_text a.d_read_text ["text"] (sp_read_text K a.C_Reader) := by
  have G_Reader_init : FnOk P w K mg base CX0 1 a.f_Reader_init a.d_Reader_init ["self", "text"] (sp_Reader_init a.C_Reader) := ok_Reader_init T
  have G_read_whole : FnOk P w K mg base (CXN P w a.C_NoText) 11 a.f_read_whole a.d_read_whole ["self"] (sp_read_whole K a.C_Reader) := ok_read_whole T
  refine T.f_read_text.ok sc_read_text (fun vs H Q E h => ?_) (fun cdv A outer s H vs Q E hr h => ?_)
  · obtain ⟨tx, b, rfl, _⟩ := h
    rfl
  · obtain ⟨tx, b, rfl, ht, k0, k1, k2⟩ := h
    refine ⟨_, (pss_cons (ps_set (i := 1) sc_read_text.nd rfl (Or.inl rfl) (pe_make T.k_Reader G_Reader_init (hr.mono (by decide)) rfl T.m_Reader T.b_Reader_init .nil pass0 (pa_cons (pv 0) pa_nil)))
        (pss_cons (ps_if (pt_cmpR op_gt (pe_callB call_len_seq rfl T.n_len PySem.boot_len (pa_cons (pv 0) pa_nil)) (pe_gint rfl T.g_LONGEST) (nomark _)) (pss_cons (ps_fld (pv 1) (pe_gint rfl T.g_TOO_LONG) rfl)
        (pss_one (ps_ret (pv 1)))) pss_nil)
        (pss_cons (ps_tryM rfl rfl T.exc rfl T.m_NoText (fun _ _ => (pv 1)) T.c_Reader T.h_read_whole G_read_whole (hr.mono (by decide)) T.b_read_whole (fun _ => (pss_one (ps_fldK K (pv 1) (pe_gint rfl T.g_NO_TEXT) rfl))))
        (pss_one (ps_ret (pv 1)))))), ?_⟩
    show (t_read_text_4 K a E 0 : TS) _ _ _
    refine ⟨_, rfl, ?_⟩
    intro r dx nr nd ne
    refine ⟨r, dx, tx, rfl, upd_same, ?_⟩
    intro x H1 e1 e2 e3 hr1 hf1 hw1 hs1 hB1 nf nw ns nB ndp kp
    subst e1 e2 e3
    refine ⟨rfl, ?_⟩
    have s0 : Same H (upd (upd H x.dx (.own x.r)) x.r (.ins a.C_Reader x.dx [])) := fun c o e => by rw [upd_ne (ne_of_none e nr), upd_ne (ne_of_none e nd)]; exact e
    have s1 : Same H H1 := fun c o e => kp c o (s0 c o e) (ne_of_none e nr)
    refine ⟨_, rfl, x.tx, _, rfl, .inl (s1.seq ht), ?_⟩
    rw [bl_len]
    first | refine i2 ⟨_, rfl, ?_⟩ | refine ⟨_, _, rfl, rfl, _, rfl, ?_⟩
    by_cases h64 : (64 : Int) < (b.length : Nat)
    · refine ifT h64 ?_
      refine ⟨_, rfl, x.r, _, x.dx, _, rfl, hr1, T.c_Reader, T.a_Reader_refusal, (by show 7 < 1000; decide), ?_⟩
      refine ⟨_, rfl, ?_⟩
      refine k0 (by (first | lia | omega)) _ _ (fun c o e => by rw [upd_ne (ne_of_none e nr)]; exact s1 c o e) ⟨_, _, upd_same, rfl⟩
    · refine ifF h64 ?_
      have k1 := k1 (by (first | lia | omega))
      have k2 := k2 (by (first | lia | omega))
      have nd4 := ndp
      simp only [List.nodup_cons, List.mem_cons, List.not_mem_nil, or_false, not_or] at nd4
      have rs : RSB K a.C_Reader H H1 x b 0 [] [x.s0] := by
        refine ⟨⟨[], s1, ht, nr, s0.free nf, hr1, hf1, hw1, .nil, Ne.symm nd4.1.1, by simp⟩, s0.free nw, s0.free nB, ?_, hB1, ndp, .cons ⟨[], hs1, .nil⟩ .nil, rfl, ?_, by (first | lia | omega), ?_⟩
        · intro d hd
          rw [List.mem_singleton.mp hd]
          exact s0.free ns
        · simp [bods]
        · intro f hf
          cases hf
      first | refine methV rfl hr1 rfl ⟨H, x, b, [x.s0], rfl, rs, ?_, ?_⟩ | refine ⟨_, rfl, x.r, x.dx, _, rfl, hr1, rfl, H, x, b, [x.s0], rfl, rs, ?_, ?_⟩
      · intro p t d bs' H2 ⟨c0, cs0, eb, h2⟩ hgo
        obtain ⟨ps2, q2⟩ := h2.q
        have eb' : [[]] = c0 :: cs0 := eb
        cases eb'
        have bod := h2.bod
        cases bod with
        | cons r' t' =>
          cases t'
          obtain ⟨xs, hx, hc⟩ := r'
          have hl : some d = some x.s0 := h2.last
          cases hl
          have efr : frT [] t = fun u => t.free u := by
            funext u
            simp [frT, bnd, frF]
          have hf2 := q2.hf
          rw [efr] at hf2
          refine ⟨_, rfl, ?_⟩
          have hlen := hc.length
          have hbd := h2.bound
          simp only [List.map_cons, List.map_nil, List.sum_cons, List.sum_nil] at hbd
          exact k2 t x p xs H2 hgo q2.s0 q2.at_ hf2 hx (hc.mono (fun _ _ e _ => e) fun _ _ _ _ z => z) (by (first | lia | omega))
      · intro no c d H2 p2 s2 hr2
        refine ⟨_, rfl, x.r, _, x.dx, _, rfl, hr2, T.c_Reader, T.a_Reader_refusal, (by show 7 < 1000; decide), ?_⟩
        refine ⟨_, rfl, ?_⟩
        refine k1 no _ _ (fun c o e => by rw [upd_ne (ne_of_none e nr)]; exact s2 c o e) ⟨_, _, upd_same, rfl⟩
end
end WS
end
section
set_option Elab.async false
set_option linter.all false
set_option maxRecDepth 100000
set_option maxHeartbeats 1000000
namespace WS
open PySem PySem.Spec PyProof.Rows L2
open Sy15 (T Val put)
open Sy15Neutral (brackets depth small)
theorem bl_nats {l : List Int} (h : l.all Sy15Neutral.byte = true) : bl (Sy15Neutral.nats l) = l.map V.int := by
  unfold bl Sy15Neutral.nats
  rw [List.map_map]
  refine List.map_congr_left fun z hz => ?_
  have := List.all_eq_true.mp h z hz
  unfold Sy15Neutral.byte at this
  rw [Bool.and_eq_true, decide_eq_true_iff] at this
  show V.int ((z.toNat : Nat) : Int) = V.int z
  rw [Int.toNat_of_nonneg this.1]
section
variable {P : Program} {w : World} {K : PySem.W.Frag} {mg : Str → Option Value} {base : Heap} {a : Adr}
def sp_is_true (K : PySem.W.Frag) : Sp := fun vs H Q _ => ∃ (tx : Addr) (l : List Int), vs = [.ref tx] ∧ SqL K H tx (l.map V.int) ∧ PySy15.is_true_asked l = true ∧ ∀ p H', H' p = some (.lst ((PySy15.is_true l).map V.int)) → Q (.ref p) H'
theorem ok_is_true (T : Txt K mg a) : FnOk P w K mg base CX0 17 a.f_is_true a.d_is_true ["text"] (sp_is_true K) := by
  have G_read_text : FnOk P w K mg base CX0 12 a.f_read_text a.d_read_text ["text"] (sp_read_text K a.C_Reader) := ok_read_text T
  have G_is_so : FnOk P w K mg base CX0 16 a.f_is_so a.d_is_so ["steps", "point"] (sp_is_so K 3) := ok_is_so T 3
  refine T.f_is_true.ok sc_is_true (fun vs H Q E h => ?_) (fun cdv A outer s H vs Q E hr h => ?_)
  · obtain ⟨tx, l, rfl, _⟩ := h
    rfl
  · obtain ⟨tx, l, rfl, ht, hask, k⟩ := h
    refine ⟨_, (pss_cons (ps_set (i := 1) sc_is_true.nd rfl (Or.inl rfl) (pe_call G_read_text (hr.mono (by decide)) rfl T.m_read_text T.f_read_text.kp T.b_read_text .nil pass0 (pa_cons (pv 0) pa_nil)))
        (pss_cons (ps_if (pt_cmpR op_ne (pe_fld (pv 1) (by rfl)) (pe_gint rfl T.g_NO_REFUSAL) (nomark _)) (pss_one (ps_ret (pe_lst (pa_cons (pe_fld (pv 1) (by rfl)) pa_nil)))) pss_nil)
        (pss_cons (ps_if (pt_val (pe_callB (cr_any rfl) rfl T.n_any WS.boot_any (pa_cons (pe_fld (pv 1) (by rfl)) pa_nil))) (pss_one (ps_ret (pe_lst (pa_cons (pe_gint rfl T.g_FREE_UNKNOWN) pa_nil)))) pss_nil)
        (pss_one (ps_ret (pe_lst (pa_cons (pe_ifExp (pt_val (pe_call G_is_so (hr.mono (by decide)) rfl T.m_is_so T.f_is_so.kp T.b_is_so .nil pass0 (pa_cons (pe_fld (pv 1) (by rfl)) (pa_cons (pe_lst (pa_cons pe_int (pa_cons pe_int (pa_cons pe_int pa_nil)))) pa_nil)))) pe_int pe_int) pa_nil))))))), ?_⟩
    have hask' : (Sy15Neutral.bytes l && Sy15Neutral.reads l fun t => (t.free 0 || t.free 1 || t.free 2) || Sy15Neutral.light (depth t) t) = true := hask
    have ef : PySy15.is_true l = Sy15Neutral.reading l fun t => if (t.free 0 || t.free 1 || t.free 2) = true then [-3] else [if Sy15Neutral.so2 t Sy15.zero = true then 1 else 0] := rfl
    rw [Bool.and_eq_true] at hask'
    obtain ⟨hby, hrd⟩ := hask'
    unfold Sy15Neutral.bytes at hby
    rw [Bool.and_eq_true] at hby
    have ebl := bl_nats hby.1
    have nl : (Sy15Neutral.nats l).length = l.length := List.length_map ..
    refine ⟨_, rfl, tx, Sy15Neutral.nats l, rfl, by rw [ebl]; exact ht, ?_, ?_, ?_⟩
    · intro h64 r H1 s1 ⟨dx, fs, hr1, hl1⟩
      refine ⟨_, rfl, r, _, dx, _, _, rfl, hr1, T.c_Reader, T.a_Reader_refusal, hl1, rfl, _, rfl, ifNeT (by decide) ?_⟩
      refine ⟨_, rfl, r, _, dx, _, _, rfl, hr1, T.c_Reader, T.a_Reader_refusal, hl1, by show 1 ≤ sizeLine; decide, fun p hp => ?_⟩
      refine k p _ ?_
      have e : PySy15.is_true l = [-2] := by
        rw [ef]
        unfold Sy15Neutral.reading Sy15Neutral.textOf
        rw [if_pos (by (first | lia | omega))]
      rw [e, upd_same]
      rfl
    · intro h64 no r H1 s1 ⟨dx, fs, hr1, hl1⟩
      refine ⟨_, rfl, r, _, dx, _, _, rfl, hr1, T.c_Reader, T.a_Reader_refusal, hl1, rfl, _, rfl, ifNeT (by decide) ?_⟩
      refine ⟨_, rfl, r, _, dx, _, _, rfl, hr1, T.c_Reader, T.a_Reader_refusal, hl1, by show 1 ≤ sizeLine; decide, fun p hp => ?_⟩
      refine k p _ ?_
      have e : PySy15.is_true l = [-1] := by
        rw [ef]
        unfold Sy15Neutral.reading Sy15Neutral.textOf
        rw [if_neg (by (first | lia | omega))]
        simp only [no]
      rw [e, upd_same]
      rfl
    · intro h64 t x p xs H1 hr1 s1 hx hf hs hc _
      have etx : Sy15Neutral.textOf l = some (Sy15Neutral.nats l) := by
        unfold Sy15Neutral.textOf
        rw [if_neg (by (first | lia | omega))]
      have er : PySy15.is_true l = (if (t.free 0 || t.free 1 || t.free 2) = true then [-3] else [if Sy15Neutral.so2 t Sy15.zero = true then 1 else 0]) := by
        rw [ef]
        unfold Sy15Neutral.reading
        rw [etx]
        simp only [hr1]
      unfold Sy15Neutral.reads at hrd
      rw [etx] at hrd
      have hrd' : ((t.free 0 || t.free 1 || t.free 2) || Sy15Neutral.light (depth t) t) = true := by
        have e : (some (Sy15Neutral.nats l)).bind Sy15.read = some t := hr1
        rw [e] at hrd
        exact hrd
      refine ⟨_, rfl, x.r, _, x.dx, _, _, rfl, hx, T.c_Reader, T.a_Reader_refusal, rfl, rfl, _, rfl, ifNeF rfl ?_⟩
      first | refine fldV rfl hx T.c_Reader T.a_Reader_free rfl ?_ | refine ⟨_, rfl, x.r, _, x.dx, _, _, rfl, hx, T.c_Reader, T.a_Reader_free, rfl, ?_⟩
      refine ⟨x.f, [t.free 0, t.free 1, t.free 2], rfl, SqL.of hf, _, rfl, ?_⟩
      have ean : ([t.free 0, t.free 1, t.free 2] : List Bool).any id = (t.free 0 || t.free 1 || t.free 2) := by
        simp [List.any, Bool.or_assoc]
      rw [ean]
      cases hfr : (t.free 0 || t.free 1 || t.free 2) with
      | true =>
        refine ifB rfl ?_
        refine ⟨by show 1 ≤ sizeLine; decide, fun p hp => ?_⟩
        refine k p _ ?_
        have e : PySy15.is_true l = [-3] := by
          rw [er]
          simp only [hfr]
          rfl
        rw [e, upd_same]
        rfl
      | false =>
        refine ifBF rfl ?_
        rw [hfr, Bool.false_or] at hrd'
        have hli : depth t ≤ 1 ∨ (depth t ≤ 2 ∧ small t = true) := by
          unfold Sy15Neutral.light at hrd'
          simp only [Bool.or_eq_true, Bool.and_eq_true, decide_eq_true_iff] at hrd'
          exact hrd'
        have hd2 : depth t ≤ 2 := by (first | lia | omega)
        have wf := wf_read hr1
        have bb := read_bnd (by (first | lia | omega)) hr1
        first | refine fldV rfl hx T.c_Reader T.a_Reader_steps rfl ⟨by show 3 ≤ sizeLine; decide, fun q hq => ?_⟩ | refine ⟨_, rfl, x.r, _, x.dx, _, _, rfl, hx, T.c_Reader, T.a_Reader_steps, rfl, by show 3 ≤ sizeLine; decide, fun q hq => ?_⟩
        have s2 : Same H1 (upd H1 q (.lst [.int 0, .int 0, .int 0])) := same_new hq
        have hq2 : (upd H1 q (.lst [.int 0, .int 0, .int 0])) q = some (.lst (ptl Sy15.zero)) := upd_same
        generalize upd H1 q (.lst [.int 0, .int 0, .int 0]) = H2 at s2 hq2
        refine ⟨x.s0, q, xs, .of t, Sy15.zero, rfl, SqL.of (s2 _ _ hs), hc.same' s2, ⟨wf, bb.1, Nat.le_trans bb.2 (by decide), hli⟩, (by show depth t < 3; (first | lia | omega)), SqL.of hq2, fun H3 s3 => ?_⟩
        have eso : Sy15Neutral.so2 t Sy15.zero = tB (Sem t Sy15.zero) := tB_eq (so2_iff hd2 wf)
        have e : PySy15.is_true l = [if tB (Sem t Sy15.zero) = true then 1 else 0] := by
          rw [er, ← eso]
          simp only [hfr]
          rfl
        refine ⟨_, rfl, ?_⟩
        cases htb : tB (Sem t Sy15.zero) with
        | true =>
          refine ifB htb ?_
          refine ⟨by show 1 ≤ sizeLine; decide, fun p hp => ?_⟩
          refine k p _ ?_
          rw [e, htb, upd_same]
          rfl
        | false =>
          refine ifBF htb ?_
          refine ⟨by show 1 ≤ sizeLine; decide, fun p hp => ?_⟩
          refine k p _ ?_
          rw [e, htb, upd_same]
          rfl
end
end WS
end
section
set_option Elab.async false
set_option linter.all false
set_option maxRecDepth 100000
set_option maxHeartbeats 2000000
namespace WS
open PySem PySem.Spec PyProof.Rows L2
theorem all_mk {P : Program} {w : World} {K : PySem.W.Frag} {h : Heap} {mg : Str → Option Value} {fa : Addr} (X : K.In h) (G : h.Ns mainGlobals mg) (hfa : mg "is_true" = some (.ref fa))
    {C_NoText : Addr}
    {C_Reader : Addr}
    {C_Band : Addr}
    {C_Outline : Addr}
    {f_Reader_init : Addr} {od_Reader_init an_Reader_init : Option Addr} {sl_Reader_init : Array (Option Value)} {oc_Reader_init kV_Reader_init dc_Reader_init pm_Reader_init cd_Reader_init ct_Reader_init : Value}
    {f_peek : Addr} {od_peek an_peek : Option Addr} {sl_peek : Array (Option Value)} {oc_peek kV_peek dc_peek pm_peek cd_peek ct_peek : Value}
    {f_take : Addr} {od_take an_take : Option Addr} {sl_take : Array (Option Value)} {oc_take kV_take dc_take pm_take cd_take ct_take : Value}
    {f_take_just : Addr} {od_take_just an_take_just : Option Addr} {sl_take_just : Array (Option Value)} {oc_take_just kV_take_just dc_take_just pm_take_just cd_take_just ct_take_just : Value}
    {f_take_digit : Addr} {od_take_digit an_take_digit : Option Addr} {sl_take_digit : Array (Option Value)} {oc_take_digit kV_take_digit dc_take_digit pm_take_digit cd_take_digit ct_take_digit : Value}
    {f_take_unknown : Addr} {od_take_unknown an_take_unknown : Option Addr} {sl_take_unknown : Array (Option Value)} {oc_take_unknown kV_take_unknown dc_take_unknown pm_take_unknown cd_take_unknown ct_take_unknown : Value}
    {f_read_whole : Addr} {od_read_whole an_read_whole : Option Addr} {sl_read_whole : Array (Option Value)} {oc_read_whole kV_read_whole dc_read_whole pm_read_whole cd_read_whole ct_read_whole : Value}
    {f_read_to_claim : Addr} {od_read_to_claim an_read_to_claim : Option Addr} {sl_read_to_claim : Array (Option Value)} {oc_read_to_claim kV_read_to_claim dc_read_to_claim pm_read_to_claim cd_read_to_claim ct_read_to_claim : Value}
    {f_read_start : Addr} {od_read_start an_read_start : Option Addr} {sl_read_start : Array (Option Value)} {oc_read_start kV_read_start dc_read_start pm_read_start cd_read_start ct_read_start : Value}
    {f_go_on_behind_text : Addr} {od_go_on_behind_text an_go_on_behind_text : Option Addr} {sl_go_on_behind_text : Array (Option Value)} {oc_go_on_behind_text kV_go_on_behind_text dc_go_on_behind_text pm_go_on_behind_text cd_go_on_behind_text ct_go_on_behind_text : Value}
    {f_read_join : Addr} {od_read_join an_read_join : Option Addr} {sl_read_join : Array (Option Value)} {oc_read_join kV_read_join dc_read_join pm_read_join cd_read_join ct_read_join : Value}
    {f_read_claim : Addr} {od_read_claim an_read_claim : Option Addr} {sl_read_claim : Array (Option Value)} {oc_read_claim kV_read_claim dc_read_claim pm_read_claim cd_read_claim ct_read_claim : Value}
    {f_read_sum : Addr} {od_read_sum an_read_sum : Option Addr} {sl_read_sum : Array (Option Value)} {oc_read_sum kV_read_sum dc_read_sum pm_read_sum cd_read_sum ct_read_sum : Value}
    {f_read_part : Addr} {od_read_part an_read_part : Option Addr} {sl_read_part : Array (Option Value)} {oc_read_part kV_read_part dc_read_part pm_read_part cd_read_part ct_read_part : Value}
    {f_read_unknown : Addr} {od_read_unknown an_read_unknown : Option Addr} {sl_read_unknown : Array (Option Value)} {oc_read_unknown kV_read_unknown dc_read_unknown pm_read_unknown cd_read_unknown ct_read_unknown : Value}
    {f_read_text : Addr} {od_read_text an_read_text : Option Addr} {sl_read_text : Array (Option Value)} {oc_read_text kV_read_text dc_read_text pm_read_text cd_read_text ct_read_text : Value}
    {f_Band_init : Addr} {od_Band_init an_Band_init : Option Addr} {sl_Band_init : Array (Option Value)} {oc_Band_init kV_Band_init dc_Band_init pm_Band_init cd_Band_init ct_Band_init : Value}
    {f_Outline_init : Addr} {od_Outline_init an_Outline_init : Option Addr} {sl_Outline_init : Array (Option Value)} {oc_Outline_init kV_Outline_init dc_Outline_init pm_Outline_init cd_Outline_init ct_Outline_init : Value}
    {f_common_divisor : Addr} {od_common_divisor an_common_divisor : Option Addr} {sl_common_divisor : Array (Option Value)} {oc_common_divisor kV_common_divisor dc_common_divisor pm_common_divisor cd_common_divisor ct_common_divisor : Value}
    {f_common_multiple : Addr} {od_common_multiple an_common_multiple : Option Addr} {sl_common_multiple : Array (Option Value)} {oc_common_multiple kV_common_multiple dc_common_multiple pm_common_multiple cd_common_multiple ct_common_multiple : Value}
    {f_value_at : Addr} {od_value_at an_value_at : Option Addr} {sl_value_at : Array (Option Value)} {oc_value_at kV_value_at dc_value_at pm_value_at cd_value_at ct_value_at : Value}
    {f_outline_of : Addr} {od_outline_of an_outline_of : Option Addr} {sl_outline_of : Array (Option Value)} {oc_outline_of kV_outline_of dc_outline_of pm_outline_of cd_outline_of ct_outline_of : Value}
    {f_outline_without : Addr} {od_outline_without an_outline_without : Option Addr} {sl_outline_without : Array (Option Value)} {oc_outline_without kV_outline_without dc_outline_without pm_outline_without cd_outline_without ct_outline_without : Value}
    {f_rising : Addr} {od_rising an_rising : Option Addr} {sl_rising : Array (Option Value)} {oc_rising kV_rising dc_rising pm_rising cd_rising ct_rising : Value}
    {f_put_in : Addr} {od_put_in an_put_in : Option Addr} {sl_put_in : Array (Option Value)} {oc_put_in kV_put_in dc_put_in pm_put_in cd_put_in ct_put_in : Value}
    {f_in_lowest_terms : Addr} {od_in_lowest_terms an_in_lowest_terms : Option Addr} {sl_in_lowest_terms : Array (Option Value)} {oc_in_lowest_terms kV_in_lowest_terms dc_in_lowest_terms pm_in_lowest_terms cd_in_lowest_terms ct_in_lowest_terms : Value}
    {f_stretches : Addr} {od_stretches an_stretches : Option Addr} {sl_stretches : Array (Option Value)} {oc_stretches kV_stretches dc_stretches pm_stretches cd_stretches ct_stretches : Value}
    {f_least_value : Addr} {od_least_value an_least_value : Option Addr} {sl_least_value : Array (Option Value)} {oc_least_value kV_least_value dc_least_value pm_least_value cd_least_value ct_least_value : Value}
    {f_is_so : Addr} {od_is_so an_is_so : Option Addr} {sl_is_so : Array (Option Value)} {oc_is_so kV_is_so dc_is_so pm_is_so cd_is_so ct_is_so : Value}
    {f_is_join_so : Addr} {od_is_join_so an_is_join_so : Option Addr} {sl_is_join_so : Array (Option Value)} {oc_is_join_so kV_is_join_so dc_is_join_so pm_is_join_so cd_is_join_so ct_is_join_so : Value}
    {f_is_claim_so : Addr} {od_is_claim_so an_is_claim_so : Option Addr} {sl_is_claim_so : Array (Option Value)} {oc_is_claim_so kV_is_claim_so dc_is_claim_so pm_is_claim_so cd_is_claim_so ct_is_claim_so : Value}
    {f_is_true : Addr} {od_is_true an_is_true : Option Addr} {sl_is_true : Array (Option Value)} {oc_is_true kV_is_true dc_is_true pm_is_true cd_is_true ct_is_true : Value}
    {t_TOO_LONG : Tok}
    {t_NO_TEXT : Tok}
    {t_FREE_UNKNOWN : Tok}
    {t_NO_REFUSAL : Tok}
    {t_LONGEST : Tok}
    {t_MOST_BINDERS : Tok}
    {t_MOST_CLAIMS : Tok}
    {t_NOT : Tok}
    {t_REST : Tok}
    {t_BOTH : Tok}
    {t_OPENING : Tok}
    {t_CLOSING : Tok}
    {t_PLUS : Tok}
    {t_ZERO : Tok}
    {t_LESS : Tok}
    {t_EQUAL : Tok}
    {t_IMPLIES : Tok}
    {t_ALL : Tok}
    {t_SOME : Tok}
    {t_CLAIM_START : Tok}
    {t_CLAIM_END : Tok}
    {t_EITHER : Tok}
    {uU : Addr} {nU : Nat} {slU : Array (Option Value)} {tU0 : Tok} {tU1 : Tok} {tU2 : Tok}
    {t_DIFFER : Tok}
    {t_NOTHING : Tok}
    {t_NO_UNKNOWN : Tok}
    {t_NUMBER : Tok}
    (mC_NoText : PySem.W.nsIn K mainGlobals "NoText" = some (some (.ref C_NoText)))
    (mC_Reader : PySem.W.nsIn K mainGlobals "Reader" = some (some (.ref C_Reader)))
    (mC_Band : PySem.W.nsIn K mainGlobals "Band" = some (some (.ref C_Band)))
    (mC_Outline : PySem.W.nsIn K mainGlobals "Outline" = some (some (.ref C_Outline)))
    (a_Reader_init : PySem.W.findIn K (.ref C_Reader) "__init__" = some (some (.ref f_Reader_init)))
    (i_Reader_init : PySem.W.isFn K (.ref f_Reader_init) = true)
    (l_Reader_init : K.lookup f_Reader_init = some ⟨oc_Reader_init, od_Reader_init, .func (PySem.W.fnOf "__init__" "Reader.__init__" (defArgs s_Reader_init) (defBody s_Reader_init) (defScope s_Reader_init) .none kV_Reader_init dc_Reader_init pm_Reader_init an_Reader_init cd_Reader_init ct_Reader_init), sl_Reader_init⟩)
    (c_Reader_init : PySem.W.codeIn K cd_Reader_init "Reader.__init__" = true)
    (k_Reader_init : PySem.W.keepIn K (.ref f_Reader_init) = true)
    (a_peek : PySem.W.findIn K (.ref C_Reader) "peek" = some (some (.ref f_peek)))
    (i_peek : PySem.W.isFn K (.ref f_peek) = true)
    (l_peek : K.lookup f_peek = some ⟨oc_peek, od_peek, .func (PySem.W.fnOf "peek" "Reader.peek" (defArgs s_peek) (defBody s_peek) (defScope s_peek) .none kV_peek dc_peek pm_peek an_peek cd_peek ct_peek), sl_peek⟩)
    (c_peek : PySem.W.codeIn K cd_peek "Reader.peek" = true)
    (k_peek : PySem.W.keepIn K (.ref f_peek) = true)
    (a_take : PySem.W.findIn K (.ref C_Reader) "take" = some (some (.ref f_take)))
    (i_take : PySem.W.isFn K (.ref f_take) = true)
    (l_take : K.lookup f_take = some ⟨oc_take, od_take, .func (PySem.W.fnOf "take" "Reader.take" (defArgs s_take) (defBody s_take) (defScope s_take) .none kV_take dc_take pm_take an_take cd_take ct_take), sl_take⟩)
    (c_take : PySem.W.codeIn K cd_take "Reader.take" = true)
    (k_take : PySem.W.keepIn K (.ref f_take) = true)
    (a_take_just : PySem.W.findIn K (.ref C_Reader) "take_just" = some (some (.ref f_take_just)))
    (i_take_just : PySem.W.isFn K (.ref f_take_just) = true)
    (l_take_just : K.lookup f_take_just = some ⟨oc_take_just, od_take_just, .func (PySem.W.fnOf "take_just" "Reader.take_just" (defArgs s_take_just) (defBody s_take_just) (defScope s_take_just) .none kV_take_just dc_take_just pm_take_just an_take_just cd_take_just ct_take_just), sl_take_just⟩)
    (c_take_just : PySem.W.codeIn K cd_take_just "Reader.take_just" = true)
    (k_take_just : PySem.W.keepIn K (.ref f_take_just) = true)
    (a_take_digit : PySem.W.findIn K (.ref C_Reader) "take_digit" = some (some (.ref f_take_digit)))
    (i_take_digit : PySem.W.isFn K (.ref f_take_digit) = true)
    (l_take_digit : K.lookup f_take_digit = some ⟨oc_take_digit, od_take_digit, .func (PySem.W.fnOf "take_digit" "Reader.take_digit" (defArgs s_take_digit) (defBody s_take_digit) (defScope s_take_digit) .none kV_take_digit dc_take_digit pm_take_digit an_take_digit cd_take_digit ct_take_digit), sl_take_digit⟩)
    (c_take_digit : PySem.W.codeIn K cd_take_digit "Reader.take_digit" = true)
    (k_take_digit : PySem.W.keepIn K (.ref f_take_digit) = true)
    (a_take_unknown : PySem.W.findIn K (.ref C_Reader) "take_unknown" = some (some (.ref f_take_unknown)))
    (i_take_unknown : PySem.W.isFn K (.ref f_take_unknown) = true)
    (l_take_unknown : K.lookup f_take_unknown = some ⟨oc_take_unknown, od_take_unknown, .func (PySem.W.fnOf "take_unknown" "Reader.take_unknown" (defArgs s_take_unknown) (defBody s_take_unknown) (defScope s_take_unknown) .none kV_take_unknown dc_take_unknown pm_take_unknown an_take_unknown cd_take_unknown ct_take_unknown), sl_take_unknown⟩)
    (c_take_unknown : PySem.W.codeIn K cd_take_unknown "Reader.take_unknown" = true)
    (k_take_unknown : PySem.W.keepIn K (.ref f_take_unknown) = true)
    (a_read_whole : PySem.W.findIn K (.ref C_Reader) "read_whole" = some (some (.ref f_read_whole)))
    (i_read_whole : PySem.W.isFn K (.ref f_read_whole) = true)
    (l_read_whole : K.lookup f_read_whole = some ⟨oc_read_whole, od_read_whole, .func (PySem.W.fnOf "read_whole" "Reader.read_whole" (defArgs s_read_whole) (defBody s_read_whole) (defScope s_read_whole) .none kV_read_whole dc_read_whole pm_read_whole an_read_whole cd_read_whole ct_read_whole), sl_read_whole⟩)
    (c_read_whole : PySem.W.codeIn K cd_read_whole "Reader.read_whole" = true)
    (k_read_whole : PySem.W.keepIn K (.ref f_read_whole) = true)
    (a_read_to_claim : PySem.W.findIn K (.ref C_Reader) "read_to_claim" = some (some (.ref f_read_to_claim)))
    (i_read_to_claim : PySem.W.isFn K (.ref f_read_to_claim) = true)
    (l_read_to_claim : K.lookup f_read_to_claim = some ⟨oc_read_to_claim, od_read_to_claim, .func (PySem.W.fnOf "read_to_claim" "Reader.read_to_claim" (defArgs s_read_to_claim) (defBody s_read_to_claim) (defScope s_read_to_claim) .none kV_read_to_claim dc_read_to_claim pm_read_to_claim an_read_to_claim cd_read_to_claim ct_read_to_claim), sl_read_to_claim⟩)
    (c_read_to_claim : PySem.W.codeIn K cd_read_to_claim "Reader.read_to_claim" = true)
    (k_read_to_claim : PySem.W.keepIn K (.ref f_read_to_claim) = true)
    (a_read_start : PySem.W.findIn K (.ref C_Reader) "read_start" = some (some (.ref f_read_start)))
    (i_read_start : PySem.W.isFn K (.ref f_read_start) = true)
    (l_read_start : K.lookup f_read_start = some ⟨oc_read_start, od_read_start, .func (PySem.W.fnOf "read_start" "Reader.read_start" (defArgs s_read_start) (defBody s_read_start) (defScope s_read_start) .none kV_read_start dc_read_start pm_read_start an_read_start cd_read_start ct_read_start), sl_read_start⟩)
    (c_read_start : PySem.W.codeIn K cd_read_start "Reader.read_start" = true)
    (k_read_start : PySem.W.keepIn K (.ref f_read_start) = true)
    (a_go_on_behind_text : PySem.W.findIn K (.ref C_Reader) "go_on_behind_text" = some (some (.ref f_go_on_behind_text)))
    (i_go_on_behind_text : PySem.W.isFn K (.ref f_go_on_behind_text) = true)
    (l_go_on_behind_text : K.lookup f_go_on_behind_text = some ⟨oc_go_on_behind_text, od_go_on_behind_text, .func (PySem.W.fnOf "go_on_behind_text" "Reader.go_on_behind_text" (defArgs s_go_on_behind_text) (defBody s_go_on_behind_text) (defScope s_go_on_behind_text) .none kV_go_on_behind_text dc_go_on_behind_text pm_go_on_behind_text an_go_on_behind_text cd_go_on_behind_text ct_go_on_behind_text), sl_go_on_behind_text⟩)
    (c_go_on_behind_text : PySem.W.codeIn K cd_go_on_behind_text "Reader.go_on_behind_text" = true)
    (k_go_on_behind_text : PySem.W.keepIn K (.ref f_go_on_behind_text) = true)
    (a_read_join : PySem.W.findIn K (.ref C_Reader) "read_join" = some (some (.ref f_read_join)))
    (i_read_join : PySem.W.isFn K (.ref f_read_join) = true)
    (l_read_join : K.lookup f_read_join = some ⟨oc_read_join, od_read_join, .func (PySem.W.fnOf "read_join" "Reader.read_join" (defArgs s_read_join) (defBody s_read_join) (defScope s_read_join) .none kV_read_join dc_read_join pm_read_join an_read_join cd_read_join ct_read_join), sl_read_join⟩)
    (c_read_join : PySem.W.codeIn K cd_read_join "Reader.read_join" = true)
    (k_read_join : PySem.W.keepIn K (.ref f_read_join) = true)
    (a_read_claim : PySem.W.findIn K (.ref C_Reader) "read_claim" = some (some (.ref f_read_claim)))
    (i_read_claim : PySem.W.isFn K (.ref f_read_claim) = true)
    (l_read_claim : K.lookup f_read_claim = some ⟨oc_read_claim, od_read_claim, .func (PySem.W.fnOf "read_claim" "Reader.read_claim" (defArgs s_read_claim) (defBody s_read_claim) (defScope s_read_claim) .none kV_read_claim dc_read_claim pm_read_claim an_read_claim cd_read_claim ct_read_claim), sl_read_claim⟩)
    (c_read_claim : PySem.W.codeIn K cd_read_claim "Reader.read_claim" = true)
    (k_read_claim : PySem.W.keepIn K (.ref f_read_claim) = true)
    (a_read_sum : PySem.W.findIn K (.ref C_Reader) "read_sum" = some (some (.ref f_read_sum)))
    (i_read_sum : PySem.W.isFn K (.ref f_read_sum) = true)
    (l_read_sum : K.lookup f_read_sum = some ⟨oc_read_sum, od_read_sum, .func (PySem.W.fnOf "read_sum" "Reader.read_sum" (defArgs s_read_sum) (defBody s_read_sum) (defScope s_read_sum) .none kV_read_sum dc_read_sum pm_read_sum an_read_sum cd_read_sum ct_read_sum), sl_read_sum⟩)
    (c_read_sum : PySem.W.codeIn K cd_read_sum "Reader.read_sum" = true)
    (k_read_sum : PySem.W.keepIn K (.ref f_read_sum) = true)
    (a_read_part : PySem.W.findIn K (.ref C_Reader) "read_part" = some (some (.ref f_read_part)))
    (i_read_part : PySem.W.isFn K (.ref f_read_part) = true)
    (l_read_part : K.lookup f_read_part = some ⟨oc_read_part, od_read_part, .func (PySem.W.fnOf "read_part" "Reader.read_part" (defArgs s_read_part) (defBody s_read_part) (defScope s_read_part) .none kV_read_part dc_read_part pm_read_part an_read_part cd_read_part ct_read_part), sl_read_part⟩)
    (c_read_part : PySem.W.codeIn K cd_read_part "Reader.read_part" = true)
    (k_read_part : PySem.W.keepIn K (.ref f_read_part) = true)
    (a_read_unknown : PySem.W.findIn K (.ref C_Reader) "read_unknown" = some (some (.ref f_read_unknown)))
    (i_read_unknown : PySem.W.isFn K (.ref f_read_unknown) = true)
    (l_read_unknown : K.lookup f_read_unknown = some ⟨oc_read_unknown, od_read_unknown, .func (PySem.W.fnOf "read_unknown" "Reader.read_unknown" (defArgs s_read_unknown) (defBody s_read_unknown) (defScope s_read_unknown) .none kV_read_unknown dc_read_unknown pm_read_unknown an_read_unknown cd_read_unknown ct_read_unknown), sl_read_unknown⟩)
    (c_read_unknown : PySem.W.codeIn K cd_read_unknown "Reader.read_unknown" = true)
    (k_read_unknown : PySem.W.keepIn K (.ref f_read_unknown) = true)
    (a_read_text : PySem.W.nsIn K mainGlobals "read_text" = some (some (.ref f_read_text)))
    (l_read_text : K.lookup f_read_text = some ⟨oc_read_text, od_read_text, .func (PySem.W.fnOf "read_text" "read_text" (defArgs s_read_text) (defBody s_read_text) (defScope s_read_text) .none kV_read_text dc_read_text pm_read_text an_read_text cd_read_text ct_read_text), sl_read_text⟩)
    (c_read_text : PySem.W.codeIn K cd_read_text "read_text" = true)
    (k_read_text : PySem.W.keepIn K (.ref f_read_text) = true)
    (a_Band_init : PySem.W.findIn K (.ref C_Band) "__init__" = some (some (.ref f_Band_init)))
    (i_Band_init : PySem.W.isFn K (.ref f_Band_init) = true)
    (l_Band_init : K.lookup f_Band_init = some ⟨oc_Band_init, od_Band_init, .func (PySem.W.fnOf "__init__" "Band.__init__" (defArgs s_Band_init) (defBody s_Band_init) (defScope s_Band_init) .none kV_Band_init dc_Band_init pm_Band_init an_Band_init cd_Band_init ct_Band_init), sl_Band_init⟩)
    (c_Band_init : PySem.W.codeIn K cd_Band_init "Band.__init__" = true)
    (k_Band_init : PySem.W.keepIn K (.ref f_Band_init) = true)
    (a_Outline_init : PySem.W.findIn K (.ref C_Outline) "__init__" = some (some (.ref f_Outline_init)))
    (i_Outline_init : PySem.W.isFn K (.ref f_Outline_init) = true)
    (l_Outline_init : K.lookup f_Outline_init = some ⟨oc_Outline_init, od_Outline_init, .func (PySem.W.fnOf "__init__" "Outline.__init__" (defArgs s_Outline_init) (defBody s_Outline_init) (defScope s_Outline_init) .none kV_Outline_init dc_Outline_init pm_Outline_init an_Outline_init cd_Outline_init ct_Outline_init), sl_Outline_init⟩)
    (c_Outline_init : PySem.W.codeIn K cd_Outline_init "Outline.__init__" = true)
    (k_Outline_init : PySem.W.keepIn K (.ref f_Outline_init) = true)
    (a_common_divisor : PySem.W.nsIn K mainGlobals "common_divisor" = some (some (.ref f_common_divisor)))
    (l_common_divisor : K.lookup f_common_divisor = some ⟨oc_common_divisor, od_common_divisor, .func (PySem.W.fnOf "common_divisor" "common_divisor" (defArgs s_common_divisor) (defBody s_common_divisor) (defScope s_common_divisor) .none kV_common_divisor dc_common_divisor pm_common_divisor an_common_divisor cd_common_divisor ct_common_divisor), sl_common_divisor⟩)
    (c_common_divisor : PySem.W.codeIn K cd_common_divisor "common_divisor" = true)
    (k_common_divisor : PySem.W.keepIn K (.ref f_common_divisor) = true)
    (a_common_multiple : PySem.W.nsIn K mainGlobals "common_multiple" = some (some (.ref f_common_multiple)))
    (l_common_multiple : K.lookup f_common_multiple = some ⟨oc_common_multiple, od_common_multiple, .func (PySem.W.fnOf "common_multiple" "common_multiple" (defArgs s_common_multiple) (defBody s_common_multiple) (defScope s_common_multiple) .none kV_common_multiple dc_common_multiple pm_common_multiple an_common_multiple cd_common_multiple ct_common_multiple), sl_common_multiple⟩)
    (c_common_multiple : PySem.W.codeIn K cd_common_multiple "common_multiple" = true)
    (k_common_multiple : PySem.W.keepIn K (.ref f_common_multiple) = true)
    (a_value_at : PySem.W.nsIn K mainGlobals "value_at" = some (some (.ref f_value_at)))
    (l_value_at : K.lookup f_value_at = some ⟨oc_value_at, od_value_at, .func (PySem.W.fnOf "value_at" "value_at" (defArgs s_value_at) (defBody s_value_at) (defScope s_value_at) .none kV_value_at dc_value_at pm_value_at an_value_at cd_value_at ct_value_at), sl_value_at⟩)
    (c_value_at : PySem.W.codeIn K cd_value_at "value_at" = true)
    (k_value_at : PySem.W.keepIn K (.ref f_value_at) = true)
    (a_outline_of : PySem.W.nsIn K mainGlobals "outline_of" = some (some (.ref f_outline_of)))
    (l_outline_of : K.lookup f_outline_of = some ⟨oc_outline_of, od_outline_of, .func (PySem.W.fnOf "outline_of" "outline_of" (defArgs s_outline_of) (defBody s_outline_of) (defScope s_outline_of) .none kV_outline_of dc_outline_of pm_outline_of an_outline_of cd_outline_of ct_outline_of), sl_outline_of⟩)
    (c_outline_of : PySem.W.codeIn K cd_outline_of "outline_of" = true)
    (k_outline_of : PySem.W.keepIn K (.ref f_outline_of) = true)
    (a_outline_without : PySem.W.nsIn K mainGlobals "outline_without" = some (some (.ref f_outline_without)))
    (l_outline_without : K.lookup f_outline_without = some ⟨oc_outline_without, od_outline_without, .func (PySem.W.fnOf "outline_without" "outline_without" (defArgs s_outline_without) (defBody s_outline_without) (defScope s_outline_without) .none kV_outline_without dc_outline_without pm_outline_without an_outline_without cd_outline_without ct_outline_without), sl_outline_without⟩)
    (c_outline_without : PySem.W.codeIn K cd_outline_without "outline_without" = true)
    (k_outline_without : PySem.W.keepIn K (.ref f_outline_without) = true)
    (a_rising : PySem.W.nsIn K mainGlobals "rising" = some (some (.ref f_rising)))
    (l_rising : K.lookup f_rising = some ⟨oc_rising, od_rising, .func (PySem.W.fnOf "rising" "rising" (defArgs s_rising) (defBody s_rising) (defScope s_rising) .none kV_rising dc_rising pm_rising an_rising cd_rising ct_rising), sl_rising⟩)
    (c_rising : PySem.W.codeIn K cd_rising "rising" = true)
    (k_rising : PySem.W.keepIn K (.ref f_rising) = true)
    (a_put_in : PySem.W.nsIn K mainGlobals "put_in" = some (some (.ref f_put_in)))
    (l_put_in : K.lookup f_put_in = some ⟨oc_put_in, od_put_in, .func (PySem.W.fnOf "put_in" "put_in" (defArgs s_put_in) (defBody s_put_in) (defScope s_put_in) .none kV_put_in dc_put_in pm_put_in an_put_in cd_put_in ct_put_in), sl_put_in⟩)
    (c_put_in : PySem.W.codeIn K cd_put_in "put_in" = true)
    (k_put_in : PySem.W.keepIn K (.ref f_put_in) = true)
    (a_in_lowest_terms : PySem.W.nsIn K mainGlobals "in_lowest_terms" = some (some (.ref f_in_lowest_terms)))
    (l_in_lowest_terms : K.lookup f_in_lowest_terms = some ⟨oc_in_lowest_terms, od_in_lowest_terms, .func (PySem.W.fnOf "in_lowest_terms" "in_lowest_terms" (defArgs s_in_lowest_terms) (defBody s_in_lowest_terms) (defScope s_in_lowest_terms) .none kV_in_lowest_terms dc_in_lowest_terms pm_in_lowest_terms an_in_lowest_terms cd_in_lowest_terms ct_in_lowest_terms), sl_in_lowest_terms⟩)
    (c_in_lowest_terms : PySem.W.codeIn K cd_in_lowest_terms "in_lowest_terms" = true)
    (k_in_lowest_terms : PySem.W.keepIn K (.ref f_in_lowest_terms) = true)
    (a_stretches : PySem.W.nsIn K mainGlobals "stretches" = some (some (.ref f_stretches)))
    (l_stretches : K.lookup f_stretches = some ⟨oc_stretches, od_stretches, .func (PySem.W.fnOf "stretches" "stretches" (defArgs s_stretches) (defBody s_stretches) (defScope s_stretches) .none kV_stretches dc_stretches pm_stretches an_stretches cd_stretches ct_stretches), sl_stretches⟩)
    (c_stretches : PySem.W.codeIn K cd_stretches "stretches" = true)
    (k_stretches : PySem.W.keepIn K (.ref f_stretches) = true)
    (a_least_value : PySem.W.nsIn K mainGlobals "least_value" = some (some (.ref f_least_value)))
    (l_least_value : K.lookup f_least_value = some ⟨oc_least_value, od_least_value, .func (PySem.W.fnOf "least_value" "least_value" (defArgs s_least_value) (defBody s_least_value) (defScope s_least_value) .none kV_least_value dc_least_value pm_least_value an_least_value cd_least_value ct_least_value), sl_least_value⟩)
    (c_least_value : PySem.W.codeIn K cd_least_value "least_value" = true)
    (k_least_value : PySem.W.keepIn K (.ref f_least_value) = true)
    (a_is_so : PySem.W.nsIn K mainGlobals "is_so" = some (some (.ref f_is_so)))
    (l_is_so : K.lookup f_is_so = some ⟨oc_is_so, od_is_so, .func (PySem.W.fnOf "is_so" "is_so" (defArgs s_is_so) (defBody s_is_so) (defScope s_is_so) .none kV_is_so dc_is_so pm_is_so an_is_so cd_is_so ct_is_so), sl_is_so⟩)
    (c_is_so : PySem.W.codeIn K cd_is_so "is_so" = true)
    (k_is_so : PySem.W.keepIn K (.ref f_is_so) = true)
    (a_is_join_so : PySem.W.nsIn K mainGlobals "is_join_so" = some (some (.ref f_is_join_so)))
    (l_is_join_so : K.lookup f_is_join_so = some ⟨oc_is_join_so, od_is_join_so, .func (PySem.W.fnOf "is_join_so" "is_join_so" (defArgs s_is_join_so) (defBody s_is_join_so) (defScope s_is_join_so) .none kV_is_join_so dc_is_join_so pm_is_join_so an_is_join_so cd_is_join_so ct_is_join_so), sl_is_join_so⟩)
    (c_is_join_so : PySem.W.codeIn K cd_is_join_so "is_join_so" = true)
    (k_is_join_so : PySem.W.keepIn K (.ref f_is_join_so) = true)
    (a_is_claim_so : PySem.W.nsIn K mainGlobals "is_claim_so" = some (some (.ref f_is_claim_so)))
    (l_is_claim_so : K.lookup f_is_claim_so = some ⟨oc_is_claim_so, od_is_claim_so, .func (PySem.W.fnOf "is_claim_so" "is_claim_so" (defArgs s_is_claim_so) (defBody s_is_claim_so) (defScope s_is_claim_so) .none kV_is_claim_so dc_is_claim_so pm_is_claim_so an_is_claim_so cd_is_claim_so ct_is_claim_so), sl_is_claim_so⟩)
    (c_is_claim_so : PySem.W.codeIn K cd_is_claim_so "is_claim_so" = true)
    (k_is_claim_so : PySem.W.keepIn K (.ref f_is_claim_so) = true)
    (a_is_true : PySem.W.nsIn K mainGlobals "is_true" = some (some (.ref f_is_true)))
    (l_is_true : K.lookup f_is_true = some ⟨oc_is_true, od_is_true, .func (PySem.W.fnOf "is_true" "is_true" (defArgs s_is_true) (defBody s_is_true) (defScope s_is_true) .none kV_is_true dc_is_true pm_is_true an_is_true cd_is_true ct_is_true), sl_is_true⟩)
    (c_is_true : PySem.W.codeIn K cd_is_true "is_true" = true)
    (k_is_true : PySem.W.keepIn K (.ref f_is_true) = true)
    (ex_NoText : PySem.W.excIn K C_NoText [.type "ValueError", .type "Exception", .type "BaseException", .type "object"] "ValueError.__new__" = true)
    (bs_NoText : PySem.W.ktsIn K C_NoText "BaseException" = true)
    (pg_Reader : PySem.W.plainGet K C_Reader Str.empty = true)
    (hd_Reader : PySem.W.hasDictIn K C_Reader = true)
    (po_Reader : PySem.W.plainOver K C_Reader = true)
    (sa_Reader : PySem.W.findIn K (.ref C_Reader) "__setattr__" = some (some (.builtin "object.__setattr__")))
    (mk_Reader : PySem.W.makesIn K C_Reader = true)
    (kc_Reader : PySem.W.keepIn K (.ref C_Reader) = true)
    (n_Reader_text : PySem.W.findIn K (.ref C_Reader) "text" = some none)
    (n_Reader_place : PySem.W.findIn K (.ref C_Reader) "place" = some none)
    (n_Reader_refusal : PySem.W.findIn K (.ref C_Reader) "refusal" = some none)
    (n_Reader_free : PySem.W.findIn K (.ref C_Reader) "free" = some none)
    (n_Reader_waiting : PySem.W.findIn K (.ref C_Reader) "waiting" = some none)
    (n_Reader_steps : PySem.W.findIn K (.ref C_Reader) "steps" = some none)
    (n_Reader_bodies : PySem.W.findIn K (.ref C_Reader) "bodies" = some none)
    (pg_Band : PySem.W.plainGet K C_Band Str.empty = true)
    (hd_Band : PySem.W.hasDictIn K C_Band = true)
    (po_Band : PySem.W.plainOver K C_Band = true)
    (sa_Band : PySem.W.findIn K (.ref C_Band) "__setattr__" = some (some (.builtin "object.__setattr__")))
    (mk_Band : PySem.W.makesIn K C_Band = true)
    (kc_Band : PySem.W.keepIn K (.ref C_Band) = true)
    (n_Band_slopes : PySem.W.findIn K (.ref C_Band) "slopes" = some none)
    (n_Band_low : PySem.W.findIn K (.ref C_Band) "low" = some none)
    (n_Band_high : PySem.W.findIn K (.ref C_Band) "high" = some none)
    (pg_Outline : PySem.W.plainGet K C_Outline Str.empty = true)
    (hd_Outline : PySem.W.hasDictIn K C_Outline = true)
    (po_Outline : PySem.W.plainOver K C_Outline = true)
    (sa_Outline : PySem.W.findIn K (.ref C_Outline) "__setattr__" = some (some (.builtin "object.__setattr__")))
    (mk_Outline : PySem.W.makesIn K C_Outline = true)
    (kc_Outline : PySem.W.keepIn K (.ref C_Outline) = true)
    (n_Outline_bands : PySem.W.findIn K (.ref C_Outline) "bands" = some none)
    (n_Outline_period : PySem.W.findIn K (.ref C_Outline) "period" = some none)
    (g_TOO_LONG : PySem.W.nsIn K mainGlobals "TOO_LONG" = some (some (.int (-2) t_TOO_LONG)))
    (g_NO_TEXT : PySem.W.nsIn K mainGlobals "NO_TEXT" = some (some (.int (-1) t_NO_TEXT)))
    (g_FREE_UNKNOWN : PySem.W.nsIn K mainGlobals "FREE_UNKNOWN" = some (some (.int (-3) t_FREE_UNKNOWN)))
    (g_NO_REFUSAL : PySem.W.nsIn K mainGlobals "NO_REFUSAL" = some (some (.int (0) t_NO_REFUSAL)))
    (g_LONGEST : PySem.W.nsIn K mainGlobals "LONGEST" = some (some (.int (64) t_LONGEST)))
    (g_MOST_BINDERS : PySem.W.nsIn K mainGlobals "MOST_BINDERS" = some (some (.int (3) t_MOST_BINDERS)))
    (g_MOST_CLAIMS : PySem.W.nsIn K mainGlobals "MOST_CLAIMS" = some (some (.int (8) t_MOST_CLAIMS)))
    (g_NOT : PySem.W.nsIn K mainGlobals "NOT" = some (some (.int (33) t_NOT)))
    (g_REST : PySem.W.nsIn K mainGlobals "REST" = some (some (.int (37) t_REST)))
    (g_BOTH : PySem.W.nsIn K mainGlobals "BOTH" = some (some (.int (38) t_BOTH)))
    (g_OPENING : PySem.W.nsIn K mainGlobals "OPENING" = some (some (.int (40) t_OPENING)))
    (g_CLOSING : PySem.W.nsIn K mainGlobals "CLOSING" = some (some (.int (41) t_CLOSING)))
    (g_PLUS : PySem.W.nsIn K mainGlobals "PLUS" = some (some (.int (43) t_PLUS)))
    (g_ZERO : PySem.W.nsIn K mainGlobals "ZERO" = some (some (.int (48) t_ZERO)))
    (g_LESS : PySem.W.nsIn K mainGlobals "LESS" = some (some (.int (60) t_LESS)))
    (g_EQUAL : PySem.W.nsIn K mainGlobals "EQUAL" = some (some (.int (61) t_EQUAL)))
    (g_IMPLIES : PySem.W.nsIn K mainGlobals "IMPLIES" = some (some (.int (62) t_IMPLIES)))
    (g_ALL : PySem.W.nsIn K mainGlobals "ALL" = some (some (.int (65) t_ALL)))
    (g_SOME : PySem.W.nsIn K mainGlobals "SOME" = some (some (.int (69) t_SOME)))
    (g_CLAIM_START : PySem.W.nsIn K mainGlobals "CLAIM_START" = some (some (.int (91) t_CLAIM_START)))
    (g_CLAIM_END : PySem.W.nsIn K mainGlobals "CLAIM_END" = some (some (.int (93) t_CLAIM_END)))
    (g_EITHER : PySem.W.nsIn K mainGlobals "EITHER" = some (some (.int (124) t_EITHER)))
    (g_UNKNOWNS : PySem.W.nsIn K mainGlobals "UNKNOWNS" = some (some (.ref uU)))
    (l_UNKNOWNS : K.lookup uU = some ⟨.type "tuple", none, .seq #[.int 120 tU0, .int 121 tU1, .int 122 tU2] nU, slU⟩)
    (g_DIFFER : PySem.W.nsIn K mainGlobals "DIFFER" = some (some (.int (94) t_DIFFER)))
    (g_NOTHING : PySem.W.nsIn K mainGlobals "NOTHING" = some (some (.int (-1) t_NOTHING)))
    (g_NO_UNKNOWN : PySem.W.nsIn K mainGlobals "NO_UNKNOWN" = some (some (.int (-1) t_NO_UNKNOWN)))
    (g_NUMBER : PySem.W.nsIn K mainGlobals "NUMBER" = some (some (.int (3) t_NUMBER)))
    (b_len : PySem.W.nsIn K mainGlobals "len" = some none)
    (b_any : PySem.W.nsIn K mainGlobals "any" = some none)
    (b_abs : PySem.W.nsIn K mainGlobals "abs" = some none)
    (b_max : PySem.W.nsIn K mainGlobals "max" = some none)
    (b_sorted : PySem.W.nsIn K mainGlobals "sorted" = some none)
    (b_list : PySem.W.nsIn K mainGlobals "list" = some none)
    (b_range : PySem.W.nsIn K mainGlobals "range" = some none)
    : ∃ fd : FuncData, (∀ (s : Shared) (us : List Value), us.length = (["text"] : List Str).length → BindsTo s fd ⟨us, []⟩ ((["text"] : List Str).zip us)) ∧ ∀ base : Heap, K.In base → base.Ns mainGlobals mg → FnOk P w K mg base CX0 200 fa fd ["text"] (sp_is_true K) := by
  have e := hfa.symm.trans (PySem.W.mg_of X G a_is_true)
  cases e
  have F_Reader_init := fun_mk (st := s_Reader_init) l_Reader_init c_Reader_init k_Reader_init
  have b_Reader_init := F_Reader_init.binds (ps := ["self", "text"]) fun _ _ _ _ _ _ us hl => match us, hl with | [_, _], _ => rfl
  have F_peek := fun_mk (st := s_peek) l_peek c_peek k_peek
  have b_peek := F_peek.binds (ps := ["self"]) fun _ _ _ _ _ _ us hl => match us, hl with | [_], _ => rfl
  have F_take := fun_mk (st := s_take) l_take c_take k_take
  have b_take := F_take.binds (ps := ["self"]) fun _ _ _ _ _ _ us hl => match us, hl with | [_], _ => rfl
  have F_take_just := fun_mk (st := s_take_just) l_take_just c_take_just k_take_just
  have b_take_just := F_take_just.binds (ps := ["self", "byte"]) fun _ _ _ _ _ _ us hl => match us, hl with | [_, _], _ => rfl
  have F_take_digit := fun_mk (st := s_take_digit) l_take_digit c_take_digit k_take_digit
  have b_take_digit := F_take_digit.binds (ps := ["self", "lowest", "highest"]) fun _ _ _ _ _ _ us hl => match us, hl with | [_, _, _], _ => rfl
  have F_take_unknown := fun_mk (st := s_take_unknown) l_take_unknown c_take_unknown k_take_unknown
  have b_take_unknown := F_take_unknown.binds (ps := ["self"]) fun _ _ _ _ _ _ us hl => match us, hl with | [_], _ => rfl
  have F_read_whole := fun_mk (st := s_read_whole) l_read_whole c_read_whole k_read_whole
  have b_read_whole := F_read_whole.binds (ps := ["self"]) fun _ _ _ _ _ _ us hl => match us, hl with | [_], _ => rfl
  have F_read_to_claim := fun_mk (st := s_read_to_claim) l_read_to_claim c_read_to_claim k_read_to_claim
  have b_read_to_claim := F_read_to_claim.binds (ps := ["self"]) fun _ _ _ _ _ _ us hl => match us, hl with | [_], _ => rfl
  have F_read_start := fun_mk (st := s_read_start) l_read_start c_read_start k_read_start
  have b_read_start := F_read_start.binds (ps := ["self", "byte"]) fun _ _ _ _ _ _ us hl => match us, hl with | [_, _], _ => rfl
  have F_go_on_behind_text := fun_mk (st := s_go_on_behind_text) l_go_on_behind_text c_go_on_behind_text k_go_on_behind_text
  have b_go_on_behind_text := F_go_on_behind_text.binds (ps := ["self"]) fun _ _ _ _ _ _ us hl => match us, hl with | [_], _ => rfl
  have F_read_join := fun_mk (st := s_read_join) l_read_join c_read_join k_read_join
  have b_read_join := F_read_join.binds (ps := ["self"]) fun _ _ _ _ _ _ us hl => match us, hl with | [_], _ => rfl
  have F_read_claim := fun_mk (st := s_read_claim) l_read_claim c_read_claim k_read_claim
  have b_read_claim := F_read_claim.binds (ps := ["self"]) fun _ _ _ _ _ _ us hl => match us, hl with | [_], _ => rfl
  have F_read_sum := fun_mk (st := s_read_sum) l_read_sum c_read_sum k_read_sum
  have b_read_sum := F_read_sum.binds (ps := ["self"]) fun _ _ _ _ _ _ us hl => match us, hl with | [_], _ => rfl
  have F_read_part := fun_mk (st := s_read_part) l_read_part c_read_part k_read_part
  have b_read_part := F_read_part.binds (ps := ["self", "total"]) fun _ _ _ _ _ _ us hl => match us, hl with | [_, _], _ => rfl
  have F_read_unknown := fun_mk (st := s_read_unknown) l_read_unknown c_read_unknown k_read_unknown
  have b_read_unknown := F_read_unknown.binds (ps := ["self"]) fun _ _ _ _ _ _ us hl => match us, hl with | [_], _ => rfl
  have F_read_text := fun_mk (st := s_read_text) l_read_text c_read_text k_read_text
  have b_read_text := F_read_text.binds (ps := ["text"]) fun _ _ _ _ _ _ us hl => match us, hl with | [_], _ => rfl
  have F_Band_init := fun_mk (st := s_Band_init) l_Band_init c_Band_init k_Band_init
  have b_Band_init := F_Band_init.binds (ps := ["self", "slopes", "low", "high"]) fun _ _ _ _ _ _ us hl => match us, hl with | [_, _, _, _], _ => rfl
  have F_Outline_init := fun_mk (st := s_Outline_init) l_Outline_init c_Outline_init k_Outline_init
  have b_Outline_init := F_Outline_init.binds (ps := ["self", "bands", "period"]) fun _ _ _ _ _ _ us hl => match us, hl with | [_, _, _], _ => rfl
  have F_common_divisor := fun_mk (st := s_common_divisor) l_common_divisor c_common_divisor k_common_divisor
  have b_common_divisor := F_common_divisor.binds (ps := ["a", "b"]) fun _ _ _ _ _ _ us hl => match us, hl with | [_, _], _ => rfl
  have F_common_multiple := fun_mk (st := s_common_multiple) l_common_multiple c_common_multiple k_common_multiple
  have b_common_multiple := F_common_multiple.binds (ps := ["a", "b"]) fun _ _ _ _ _ _ us hl => match us, hl with | [_, _], _ => rfl
  have F_value_at := fun_mk (st := s_value_at) l_value_at c_value_at k_value_at
  have b_value_at := F_value_at.binds (ps := ["slopes", "number", "point"]) fun _ _ _ _ _ _ us hl => match us, hl with | [_, _, _], _ => rfl
  have F_outline_of := fun_mk (st := s_outline_of) l_outline_of c_outline_of k_outline_of
  have b_outline_of := F_outline_of.binds (ps := ["steps"]) fun _ _ _ _ _ _ us hl => match us, hl with | [_], _ => rfl
  have F_outline_without := fun_mk (st := s_outline_without) l_outline_without c_outline_without k_outline_without
  have b_outline_without := F_outline_without.binds (ps := ["unknown", "inner"]) fun _ _ _ _ _ _ us hl => match us, hl with | [_, _], _ => rfl
  have F_rising := fun_mk (st := s_rising) l_rising c_rising k_rising
  have b_rising := F_rising.binds (ps := ["band", "unknown"]) fun _ _ _ _ _ _ us hl => match us, hl with | [_, _], _ => rfl
  have F_put_in := fun_mk (st := s_put_in) l_put_in c_put_in k_put_in
  have b_put_in := F_put_in.binds (ps := ["start", "band", "unknown", "scale", "most_shift"]) fun _ _ _ _ _ _ us hl => match us, hl with | [_, _, _, _, _], _ => rfl
  have F_in_lowest_terms := fun_mk (st := s_in_lowest_terms) l_in_lowest_terms c_in_lowest_terms k_in_lowest_terms
  have b_in_lowest_terms := F_in_lowest_terms.binds (ps := ["band"]) fun _ _ _ _ _ _ us hl => match us, hl with | [_], _ => rfl
  have F_stretches := fun_mk (st := s_stretches) l_stretches c_stretches k_stretches
  have b_stretches := F_stretches.binds (ps := ["unknown", "steps", "point"]) fun _ _ _ _ _ _ us hl => match us, hl with | [_, _, _], _ => rfl
  have F_least_value := fun_mk (st := s_least_value) l_least_value c_least_value k_least_value
  have b_least_value := F_least_value.binds (ps := ["unknown", "steps", "point", "wanted"]) fun _ _ _ _ _ _ us hl => match us, hl with | [_, _, _, _], _ => rfl
  have F_is_so := fun_mk (st := s_is_so) l_is_so c_is_so k_is_so
  have b_is_so := F_is_so.binds (ps := ["steps", "point"]) fun _ _ _ _ _ _ us hl => match us, hl with | [_, _], _ => rfl
  have F_is_join_so := fun_mk (st := s_is_join_so) l_is_join_so c_is_join_so k_is_join_so
  have b_is_join_so := F_is_join_so.binds (ps := ["sign", "first", "second"]) fun _ _ _ _ _ _ us hl => match us, hl with | [_, _, _], _ => rfl
  have F_is_claim_so := fun_mk (st := s_is_claim_so) l_is_claim_so c_is_claim_so k_is_claim_so
  have b_is_claim_so := F_is_claim_so.binds (ps := ["step", "point"]) fun _ _ _ _ _ _ us hl => match us, hl with | [_, _], _ => rfl
  have F_is_true := fun_mk (st := s_is_true) l_is_true c_is_true k_is_true
  have b_is_true := F_is_true.binds (ps := ["text"]) fun _ _ _ _ _ _ us hl => match us, hl with | [_], _ => rfl
  have T : Txt K mg ⟨f_Reader_init, _, f_peek, _, f_take, _, f_take_just, _, f_take_digit, _, f_take_unknown, _, f_read_whole, _, f_read_to_claim, _, f_read_start, _, f_go_on_behind_text, _, f_read_join, _, f_read_claim, _, f_read_sum, _, f_read_part, _, f_read_unknown, _, f_read_text, _, f_Band_init, _, f_Outline_init, _, f_common_divisor, _, f_common_multiple, _, f_value_at, _, f_outline_of, _, f_outline_without, _, f_rising, _, f_put_in, _, f_in_lowest_terms, _, f_stretches, _, f_least_value, _, f_is_so, _, f_is_join_so, _, f_is_claim_so, _, fa, _, C_NoText, C_Reader, C_Band, C_Outline, uU⟩ := ⟨F_Reader_init,
    b_Reader_init,
    F_peek,
    b_peek,
    ⟨a_peek, i_peek, k_peek⟩,
    F_take,
    b_take,
    ⟨a_take, i_take, k_take⟩,
    F_take_just,
    b_take_just,
    ⟨a_take_just, i_take_just, k_take_just⟩,
    F_take_digit,
    b_take_digit,
    ⟨a_take_digit, i_take_digit, k_take_digit⟩,
    F_take_unknown,
    b_take_unknown,
    ⟨a_take_unknown, i_take_unknown, k_take_unknown⟩,
    F_read_whole,
    b_read_whole,
    ⟨a_read_whole, i_read_whole, k_read_whole⟩,
    F_read_to_claim,
    b_read_to_claim,
    ⟨a_read_to_claim, i_read_to_claim, k_read_to_claim⟩,
    F_read_start,
    b_read_start,
    ⟨a_read_start, i_read_start, k_read_start⟩,
    F_go_on_behind_text,
    b_go_on_behind_text,
    ⟨a_go_on_behind_text, i_go_on_behind_text, k_go_on_behind_text⟩,
    F_read_join,
    b_read_join,
    ⟨a_read_join, i_read_join, k_read_join⟩,
    F_read_claim,
    b_read_claim,
    ⟨a_read_claim, i_read_claim, k_read_claim⟩,
    F_read_sum,
    b_read_sum,
    ⟨a_read_sum, i_read_sum, k_read_sum⟩,
    F_read_part,
    b_read_part,
    ⟨a_read_part, i_read_part, k_read_part⟩,
    F_read_unknown,
    b_read_unknown,
    ⟨a_read_unknown, i_read_unknown, k_read_unknown⟩,
    F_read_text,
    b_read_text,
    PySem.W.mg_of X G a_read_text,
    F_Band_init,
    b_Band_init,
    F_Outline_init,
    b_Outline_init,
    F_common_divisor,
    b_common_divisor,
    PySem.W.mg_of X G a_common_divisor,
    F_common_multiple,
    b_common_multiple,
    PySem.W.mg_of X G a_common_multiple,
    F_value_at,
    b_value_at,
    PySem.W.mg_of X G a_value_at,
    F_outline_of,
    b_outline_of,
    PySem.W.mg_of X G a_outline_of,
    F_outline_without,
    b_outline_without,
    PySem.W.mg_of X G a_outline_without,
    F_rising,
    b_rising,
    PySem.W.mg_of X G a_rising,
    F_put_in,
    b_put_in,
    PySem.W.mg_of X G a_put_in,
    F_in_lowest_terms,
    b_in_lowest_terms,
    PySem.W.mg_of X G a_in_lowest_terms,
    F_stretches,
    b_stretches,
    PySem.W.mg_of X G a_stretches,
    F_least_value,
    b_least_value,
    PySem.W.mg_of X G a_least_value,
    F_is_so,
    b_is_so,
    PySem.W.mg_of X G a_is_so,
    F_is_join_so,
    b_is_join_so,
    PySem.W.mg_of X G a_is_join_so,
    F_is_claim_so,
    b_is_claim_so,
    PySem.W.mg_of X G a_is_claim_so,
    F_is_true,
    b_is_true,
    PySem.W.mg_of X G a_is_true,
    PySem.W.mg_of X G mC_NoText,
    PySem.W.mg_of X G mC_Reader,
    ⟨pg_Reader, hd_Reader, po_Reader, sa_Reader⟩,
    ⟨mk_Reader, a_Reader_init, i_Reader_init, kc_Reader⟩,
    n_Reader_text,
    n_Reader_place,
    n_Reader_refusal,
    n_Reader_free,
    n_Reader_waiting,
    n_Reader_steps,
    n_Reader_bodies,
    PySem.W.mg_of X G mC_Band,
    ⟨pg_Band, hd_Band, po_Band, sa_Band⟩,
    ⟨mk_Band, a_Band_init, i_Band_init, kc_Band⟩,
    n_Band_slopes,
    n_Band_low,
    n_Band_high,
    PySem.W.mg_of X G mC_Outline,
    ⟨pg_Outline, hd_Outline, po_Outline, sa_Outline⟩,
    ⟨mk_Outline, a_Outline_init, i_Outline_init, kc_Outline⟩,
    n_Outline_bands,
    n_Outline_period,
    ⟨_, PySem.W.mg_of X G g_TOO_LONG⟩,
    ⟨_, PySem.W.mg_of X G g_NO_TEXT⟩,
    ⟨_, PySem.W.mg_of X G g_FREE_UNKNOWN⟩,
    ⟨_, PySem.W.mg_of X G g_NO_REFUSAL⟩,
    ⟨_, PySem.W.mg_of X G g_LONGEST⟩,
    ⟨_, PySem.W.mg_of X G g_MOST_BINDERS⟩,
    ⟨_, PySem.W.mg_of X G g_MOST_CLAIMS⟩,
    ⟨_, PySem.W.mg_of X G g_NOT⟩,
    ⟨_, PySem.W.mg_of X G g_REST⟩,
    ⟨_, PySem.W.mg_of X G g_BOTH⟩,
    ⟨_, PySem.W.mg_of X G g_OPENING⟩,
    ⟨_, PySem.W.mg_of X G g_CLOSING⟩,
    ⟨_, PySem.W.mg_of X G g_PLUS⟩,
    ⟨_, PySem.W.mg_of X G g_ZERO⟩,
    ⟨_, PySem.W.mg_of X G g_LESS⟩,
    ⟨_, PySem.W.mg_of X G g_EQUAL⟩,
    ⟨_, PySem.W.mg_of X G g_IMPLIES⟩,
    ⟨_, PySem.W.mg_of X G g_ALL⟩,
    ⟨_, PySem.W.mg_of X G g_SOME⟩,
    ⟨_, PySem.W.mg_of X G g_CLAIM_START⟩,
    ⟨_, PySem.W.mg_of X G g_CLAIM_END⟩,
    ⟨_, PySem.W.mg_of X G g_EITHER⟩,
    PySem.W.mg_of X G g_UNKNOWNS,
    fun H => .inr ⟨_, _, _, l_UNKNOWNS, rfl, rfl, by show 3 ≤ sizeLine; decide, (.cons ⟨_, rfl⟩ (.cons ⟨_, rfl⟩ (.cons ⟨_, rfl⟩ .nil)))⟩,
    ⟨_, l_UNKNOWNS, rfl, rfl⟩,
    ⟨_, PySem.W.mg_of X G g_DIFFER⟩,
    ⟨_, PySem.W.mg_of X G g_NOTHING⟩,
    ⟨_, PySem.W.mg_of X G g_NO_UNKNOWN⟩,
    ⟨_, PySem.W.mg_of X G g_NUMBER⟩,
    PySem.W.mg_none_of X G b_len,
    PySem.W.mg_none_of X G b_any,
    PySem.W.mg_none_of X G b_abs,
    PySem.W.mg_none_of X G b_max,
    PySem.W.mg_none_of X G b_sorted,
    PySem.W.mg_none_of X G b_list,
    PySem.W.mg_none_of X G b_range,
    ⟨ex_NoText, bs_NoText⟩⟩
  exact ⟨(PySem.W.fnOf "is_true" "is_true" (defArgs s_is_true) (defBody s_is_true) (defScope s_is_true) .none kV_is_true dc_is_true pm_is_true an_is_true cd_is_true ct_is_true), fun s us hu => match us, hu with | [_], _ => .of_eq rfl, fun base _ _ => FnOk.mono (ok_is_true T) (by decide)⟩
end WS
end
section
set_option Elab.async false
open PySem PySem.W PyProof.Rows
set_option maxRecDepth 100000 in
set_option maxHeartbeats 0 in
theorem PySem.Challenge.cw_wholesays_s01_is_true_holds : PySem.Challenge.rw_wholesays_s01_is_true.Holds := by
  w_on
  refine holds_os (q := WS.vw) (loose := []) (N := 4400) (Xt := fun s => xlAt WS.vw [] s && recOk [] s) (XP := XL WS.vw []) (YP := Hook.says (kHook WS.x.heap_1 WS.al WS.hk)) WS.left (Hook.of _) (Hook.keeps _)
    (fun s e => xl_of s (Bool.and_eq_true_iff.mp e).1) XL.keeps rfl rfl rfl (fun s e => recFacts_of (Bool.and_eq_true_iff.mp e).2) os_shapes (by decide +kernel) (by decide +kernel) ⟨rfl, rfl, rfl, rfl, rfl, by decide +kernel⟩ ⟨[.list []], by decide +kernel, by decide +kernel⟩ ?_
  k_fillS
  refine L2.walk_specK (r := PySem.Challenge.rw_wholesays_s01_is_true) (k := 200) (CX := L2.CX0) (ps := ["text"]) (sp := WS.sp_is_true) (by decide +kernel) rfl rfl ⟨rfl, by decide, by decide⟩ (fun w h Y => PySem.W.kIn_of Y) ?F ?S (fun _ _ _ _ z => z)
  case F =>
    intro w mg fa h Y KX G hmg
    refine' WS.all_mk KX G hmg ?mC_NoText ?mC_Reader ?mC_Band ?mC_Outline ?a_Reader_init ?i_Reader_init ?l_Reader_init ?c_Reader_init ?k_Reader_init ?a_peek ?i_peek ?l_peek ?c_peek ?k_peek ?a_take ?i_take ?l_take ?c_take ?k_take ?a_take_just ?i_take_just ?l_take_just ?c_take_just ?k_take_just ?a_take_digit ?i_take_digit ?l_take_digit ?c_take_digit ?k_take_digit ?a_take_unknown ?i_take_unknown ?l_take_unknown ?c_take_unknown ?k_take_unknown ?a_read_whole ?i_read_whole ?l_read_whole ?c_read_whole ?k_read_whole ?a_read_to_claim ?i_read_to_claim ?l_read_to_claim ?c_read_to_claim ?k_read_to_claim ?a_read_start ?i_read_start ?l_read_start ?c_read_start ?k_read_start ?a_go_on_behind_text ?i_go_on_behind_text ?l_go_on_behind_text ?c_go_on_behind_text ?k_go_on_behind_text ?a_read_join ?i_read_join ?l_read_join ?c_read_join ?k_read_join ?a_read_claim ?i_read_claim ?l_read_claim ?c_read_claim ?k_read_claim ?a_read_sum ?i_read_sum ?l_read_sum ?c_read_sum ?k_read_sum ?a_read_part ?i_read_part ?l_read_part ?c_read_part ?k_read_part ?a_read_unknown ?i_read_unknown ?l_read_unknown ?c_read_unknown ?k_read_unknown ?a_read_text ?l_read_text ?c_read_text ?k_read_text ?a_Band_init ?i_Band_init ?l_Band_init ?c_Band_init ?k_Band_init ?a_Outline_init ?i_Outline_init ?l_Outline_init ?c_Outline_init ?k_Outline_init ?a_common_divisor ?l_common_divisor ?c_common_divisor ?k_common_divisor ?a_common_multiple ?l_common_multiple ?c_common_multiple ?k_common_multiple ?a_value_at ?l_value_at ?c_value_at ?k_value_at ?a_outline_of ?l_outline_of ?c_outline_of ?k_outline_of ?a_outline_without ?l_outline_without ?c_outline_without ?k_outline_without ?a_rising ?l_rising ?c_rising ?k_rising ?a_put_in ?l_put_in ?c_put_in ?k_put_in ?a_in_lowest_terms ?l_in_lowest_terms ?c_in_lowest_terms ?k_in_lowest_terms ?a_stretches ?l_stretches ?c_stretches ?k_stretches ?a_least_value ?l_least_value ?c_least_value ?k_least_value ?a_is_so ?l_is_so ?c_is_so ?k_is_so ?a_is_join_so ?l_is_join_so ?c_is_join_so ?k_is_join_so ?a_is_claim_so ?l_is_claim_so ?c_is_claim_so ?k_is_claim_so ?a_is_true ?l_is_true ?c_is_true ?k_is_true ?ex_NoText ?bs_NoText ?pg_Reader ?hd_Reader ?po_Reader ?sa_Reader ?mk_Reader ?kc_Reader ?n_Reader_text ?n_Reader_place ?n_Reader_refusal ?n_Reader_free ?n_Reader_waiting ?n_Reader_steps ?n_Reader_bodies ?pg_Band ?hd_Band ?po_Band ?sa_Band ?mk_Band ?kc_Band ?n_Band_slopes ?n_Band_low ?n_Band_high ?pg_Outline ?hd_Outline ?po_Outline ?sa_Outline ?mk_Outline ?kc_Outline ?n_Outline_bands ?n_Outline_period ?g_TOO_LONG ?g_NO_TEXT ?g_FREE_UNKNOWN ?g_NO_REFUSAL ?g_LONGEST ?g_MOST_BINDERS ?g_MOST_CLAIMS ?g_NOT ?g_REST ?g_BOTH ?g_OPENING ?g_CLOSING ?g_PLUS ?g_ZERO ?g_LESS ?g_EQUAL ?g_IMPLIES ?g_ALL ?g_SOME ?g_CLAIM_START ?g_CLAIM_END ?g_EITHER ?g_UNKNOWNS ?l_UNKNOWNS ?g_DIFFER ?g_NOTHING ?g_NO_UNKNOWN ?g_NUMBER ?b_len ?b_any ?b_abs ?b_max ?b_sorted ?b_list ?b_range
    (case mC_NoText => k_is)
    (case mC_Reader => k_is)
    (case mC_Band => k_is)
    (case mC_Outline => k_is)
    (case a_Reader_init => k_is)
    (case i_Reader_init => k_is)
    (case l_Reader_init => k_is)
    (case c_Reader_init => k_is)
    (case k_Reader_init => k_is)
    (case a_peek => k_is)
    (case i_peek => k_is)
    (case l_peek => k_is)
    (case c_peek => k_is)
    (case k_peek => k_is)
    (case a_take => k_is)
    (case i_take => k_is)
    (case l_take => k_is)
    (case c_take => k_is)
    (case k_take => k_is)
    (case a_take_just => k_is)
    (case i_take_just => k_is)
    (case l_take_just => k_is)
    (case c_take_just => k_is)
    (case k_take_just => k_is)
    (case a_take_digit => k_is)
    (case i_take_digit => k_is)
    (case l_take_digit => k_is)
    (case c_take_digit => k_is)
    (case k_take_digit => k_is)
    (case a_take_unknown => k_is)
    (case i_take_unknown => k_is)
    (case l_take_unknown => k_is)
    (case c_take_unknown => k_is)
    (case k_take_unknown => k_is)
    (case a_read_whole => k_is)
    (case i_read_whole => k_is)
    (case l_read_whole => k_is)
    (case c_read_whole => k_is)
    (case k_read_whole => k_is)
    (case a_read_to_claim => k_is)
    (case i_read_to_claim => k_is)
    (case l_read_to_claim => k_is)
    (case c_read_to_claim => k_is)
    (case k_read_to_claim => k_is)
    (case a_read_start => k_is)
    (case i_read_start => k_is)
    (case l_read_start => k_is)
    (case c_read_start => k_is)
    (case k_read_start => k_is)
    (case a_go_on_behind_text => k_is)
    (case i_go_on_behind_text => k_is)
    (case l_go_on_behind_text => k_is)
    (case c_go_on_behind_text => k_is)
    (case k_go_on_behind_text => k_is)
    (case a_read_join => k_is)
    (case i_read_join => k_is)
    (case l_read_join => k_is)
    (case c_read_join => k_is)
    (case k_read_join => k_is)
    (case a_read_claim => k_is)
    (case i_read_claim => k_is)
    (case l_read_claim => k_is)
    (case c_read_claim => k_is)
    (case k_read_claim => k_is)
    (case a_read_sum => k_is)
    (case i_read_sum => k_is)
    (case l_read_sum => k_is)
    (case c_read_sum => k_is)
    (case k_read_sum => k_is)
    (case a_read_part => k_is)
    (case i_read_part => k_is)
    (case l_read_part => k_is)
    (case c_read_part => k_is)
    (case k_read_part => k_is)
    (case a_read_unknown => k_is)
    (case i_read_unknown => k_is)
    (case l_read_unknown => k_is)
    (case c_read_unknown => k_is)
    (case k_read_unknown => k_is)
    (case a_read_text => k_is)
    (case l_read_text => k_is)
    (case c_read_text => k_is)
    (case k_read_text => k_is)
    (case a_Band_init => k_is)
    (case i_Band_init => k_is)
    (case l_Band_init => k_is)
    (case c_Band_init => k_is)
    (case k_Band_init => k_is)
    (case a_Outline_init => k_is)
    (case i_Outline_init => k_is)
    (case l_Outline_init => k_is)
    (case c_Outline_init => k_is)
    (case k_Outline_init => k_is)
    (case a_common_divisor => k_is)
    (case l_common_divisor => k_is)
    (case c_common_divisor => k_is)
    (case k_common_divisor => k_is)
    (case a_common_multiple => k_is)
    (case l_common_multiple => k_is)
    (case c_common_multiple => k_is)
    (case k_common_multiple => k_is)
    (case a_value_at => k_is)
    (case l_value_at => k_is)
    (case c_value_at => k_is)
    (case k_value_at => k_is)
    (case a_outline_of => k_is)
    (case l_outline_of => k_is)
    (case c_outline_of => k_is)
    (case k_outline_of => k_is)
    (case a_outline_without => k_is)
    (case l_outline_without => k_is)
    (case c_outline_without => k_is)
    (case k_outline_without => k_is)
    (case a_rising => k_is)
    (case l_rising => k_is)
    (case c_rising => k_is)
    (case k_rising => k_is)
    (case a_put_in => k_is)
    (case l_put_in => k_is)
    (case c_put_in => k_is)
    (case k_put_in => k_is)
    (case a_in_lowest_terms => k_is)
    (case l_in_lowest_terms => k_is)
    (case c_in_lowest_terms => k_is)
    (case k_in_lowest_terms => k_is)
    (case a_stretches => k_is)
    (case l_stretches => k_is)
    (case c_stretches => k_is)
    (case k_stretches => k_is)
    (case a_least_value => k_is)
    (case l_least_value => k_is)
    (case c_least_value => k_is)
    (case k_least_value => k_is)
    (case a_is_so => k_is)
    (case l_is_so => k_is)
    (case c_is_so => k_is)
    (case k_is_so => k_is)
    (case a_is_join_so => k_is)
    (case l_is_join_so => k_is)
    (case c_is_join_so => k_is)
    (case k_is_join_so => k_is)
    (case a_is_claim_so => k_is)
    (case l_is_claim_so => k_is)
    (case c_is_claim_so => k_is)
    (case k_is_claim_so => k_is)
    (case a_is_true => k_is)
    (case l_is_true => k_is)
    (case c_is_true => k_is)
    (case k_is_true => k_is)
    (case ex_NoText => k_exc)
    (case bs_NoText => kts_isx)
    (case pg_Reader => k_is)
    (case hd_Reader => k_is)
    (case po_Reader => k_is)
    (case sa_Reader => k_is)
    (case mk_Reader => k_is)
    (case kc_Reader => k_is)
    (case n_Reader_text => k_is)
    (case n_Reader_place => k_is)
    (case n_Reader_refusal => k_is)
    (case n_Reader_free => k_is)
    (case n_Reader_waiting => k_is)
    (case n_Reader_steps => k_is)
    (case n_Reader_bodies => k_is)
    (case pg_Band => k_is)
    (case hd_Band => k_is)
    (case po_Band => k_is)
    (case sa_Band => k_is)
    (case mk_Band => k_is)
    (case kc_Band => k_is)
    (case n_Band_slopes => k_is)
    (case n_Band_low => k_is)
    (case n_Band_high => k_is)
    (case pg_Outline => k_is)
    (case hd_Outline => k_is)
    (case po_Outline => k_is)
    (case sa_Outline => k_is)
    (case mk_Outline => k_is)
    (case kc_Outline => k_is)
    (case n_Outline_bands => k_is)
    (case n_Outline_period => k_is)
    (case g_TOO_LONG => k_is)
    (case g_NO_TEXT => k_is)
    (case g_FREE_UNKNOWN => k_is)
    (case g_NO_REFUSAL => k_is)
    (case g_LONGEST => k_is)
    (case g_MOST_BINDERS => k_is)
    (case g_MOST_CLAIMS => k_is)
    (case g_NOT => k_is)
    (case g_REST => k_is)
    (case g_BOTH => k_is)
    (case g_OPENING => k_is)
    (case g_CLOSING => k_is)
    (case g_PLUS => k_is)
    (case g_ZERO => k_is)
    (case g_LESS => k_is)
    (case g_EQUAL => k_is)
    (case g_IMPLIES => k_is)
    (case g_ALL => k_is)
    (case g_SOME => k_is)
    (case g_CLAIM_START => k_is)
    (case g_CLAIM_END => k_is)
    (case g_EITHER => k_is)
    (case g_UNKNOWNS => k_is)
    (case l_UNKNOWNS => k_is)
    (case g_DIFFER => k_is)
    (case g_NOTHING => k_is)
    (case g_NO_UNKNOWN => k_is)
    (case g_NUMBER => k_is)
    (case b_len => k_is)
    (case b_any => k_is)
    (case b_abs => k_is)
    (case b_max => k_is)
    (case b_sorted => k_is)
    (case b_list => k_is)
    (case b_range => k_is)
  case S =>
    intro K H xs a hO hwi hask hx
    cases hx with
    | cons h1 h2 =>
      cases h2
      cases h1 with
      | lst hs ha =>
        have e := L2.ints_dw a.1 _ ha
        subst e
        exact ⟨_, a.1, rfl, hs, hask, fun p H' hp => .lst (L2.SqL.of hp) (L2.dw_ints _)⟩
end
